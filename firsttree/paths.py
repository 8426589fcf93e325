"""Paths: which bytes are one, and what stands above it."""

SLASH = 47
DOT = 46
LONGEST_PATH = 255


def parts_of(name):
    parts = []
    part = []
    for byte in name:
        if byte == SLASH:
            parts.append(part)
            part = []
        else:
            part.append(byte)
    parts.append(part)
    return parts


def is_part(part):
    if len(part) == 0 or 0 in part:
        return False
    return part != [DOT] and part != [DOT, DOT]


def is_path(name):
    if len(name) > LONGEST_PATH:
        return False
    return all([is_part(part) for part in parts_of(name)])


# None for a path of one part.
def parent_of(path):
    at = len(path) - 1
    while at >= 0 and path[at] != SLASH:
        at -= 1
    if at < 0:
        return None
    return path[:at]
