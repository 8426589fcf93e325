"""The bytes 0 that fill up an item's name and its data."""

STEP = 4


# How many bytes 0 fill up so many bytes to a multiple of 4.
def zeros_behind(length):
    return -length % STEP
