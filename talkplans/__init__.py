"""Talkplans: two hands that talk by told plans."""
