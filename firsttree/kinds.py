"""What a path may have, numbered as the call kind tells it."""

NOTHING = 0
FILE = 1
DIRECTORY = 2
LINK = 3
