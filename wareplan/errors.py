"""The refusals of the program."""


# Any refusal, so that one handler can take them all.
class PlanError(ValueError):
    pass


# What is handed in is no fraction, or no text of one.
class NoFraction(PlanError):
    pass
