"""What is raised where something is refused."""


class TalkError(ValueError):
    """Any refusal."""


class BadPlan(TalkError):
    """What was handed in as a plan is none."""


class BadProgram(TalkError):
    """What was handed in as a program is none."""


class BadTurns(TalkError):
    """What was handed in as turns is none."""


class NoFit(TalkError):
    """Two plans were handed in that don't fit."""
