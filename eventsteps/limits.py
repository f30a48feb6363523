"""The greatest numbers, lengths and times that the program allows."""

STATIONS = 6
SERVERS = 4
ROOM = 40
KINDS = 6
PRIORITY = 9
STEPS = 6
DURATION = 100
PAUSES = 8
JOBS = 40
TIME = 10000
LETTERS = 8
NOW = 20000
KEPT = 5
WITHIN = 1000
