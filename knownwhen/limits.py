"""The limits that the calls are held to, and the numbers of the refusals."""

MOST_LABEL = 999999999999
MOST_MOMENT = 1000000000
MOST_BOUNDS = 64
MOST_LINES = 64
MOST_VERSIONS = 64
MOST_ANSWERED = 8000

# Stands where a known moment is asked for and means the pending story.
PENDING = -1

# Stands where the first moment behind a run is told and means that the run never ends.
NEVER = -1

ACCEPTED = 0
OUT_OF_RANGE = -1
NOT_A_SET = -2
NO_SUCH_COMMIT = -3
NOT_LATER = -4
TOO_MANY_VERSIONS = -5
STORY_TOO_LARGE = -6
ANSWER_TOO_LONG = -30
