"""The numbers that refusals are answered with."""

NO_SUCH = -2
NOT_BEGUN = -11
NOT_AS_TOLD = -22
NO_SLOT = -28
