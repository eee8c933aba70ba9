"""The numbers that refusals are answered with."""

NO_SUCH = -2
NOT_BEGUN = -11
NONE_KEPT = -16
NOT_AS_TOLD = -22
NO_SLOT = -28
NO_WAY = -33
