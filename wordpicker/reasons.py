"""The numbers that tell why a run stops."""

STEPS_DONE = 0
NO_SUCH = 1
NOT_MULTIPLE = 2
NOT_WITHIN = 3
TOO_GREAT = 4
SYSTEM_CALLED = 5
