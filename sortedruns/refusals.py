"""The numbers that refusals are answered with."""

NO_FORM = -1
NO_SCHEMA = -2
NO_SNAPSHOT = -3
NO_COLUMNS = -4
NO_LIMIT = -4
NO_ROOM = -5
NO_ROOM_FOR_RUN = -6
NO_RUNS = -7
NO_KEY = -8
