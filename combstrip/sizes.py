"""The bounds that the program keeps to."""

MOST_COMBS = 8
MOST_NAME = 6
MOST_TOOTH = 7
MOST_DEEDS = 300

# A shape speaks of the seven places that a tooth of an earlier comb can reach.
SHAPES = 128

# The greatest place of shapes_at.
MOST_SHAPED = 200

# The greatest length that is only asked about, not filled.
MOST_LENGTH = 1_000_000_000_000

# The greatest length that is filled and counted.
MOST_FILLED = 200

MOST_PLACE = 1_000_000_000_000_000_000
