"""The numbers that refusals are told by."""

NO_RUN = -5
NOT_ALLOWED = -6
NO_ROOM = -7
OUT_OF_RANGE = -8
