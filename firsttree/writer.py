"""The tree written as one archive."""

from firsttree.head import TRAILER, head_row
from firsttree.kinds import DIRECTORY, FILE
from firsttree.zeros import zeros_behind

FILE_MODE = 0x81A4
DIRECTORY_MODE = 0x41ED
LINK_MODE = 0xA1FF
END_MODE = 0
# What stands in the place of a serial where there is no file.
NO_SERIAL = 0
DIRECTORY_NAMES = 2
LINK_NAMES = 1
END_NAMES = 1


def archive_of(tree):
    row = []
    # Of each file's number its serial; a file that is here has been written.
    serials = {}
    for path in tree.ordered_paths():
        kind = tree.kind_at(path)
        if kind == FILE:
            row.extend(file_item(tree, path, serials))
        elif kind == DIRECTORY:
            row.extend(item_of(path, NO_SERIAL, DIRECTORY_MODE, DIRECTORY_NAMES, ()))
        else:
            row.extend(item_of(path, NO_SERIAL, LINK_MODE, LINK_NAMES, tree.data_at(path)))
    row.extend(item_of(TRAILER, NO_SERIAL, END_MODE, END_NAMES, ()))
    return row


# Gives the file its serial if this is the first of its paths.
def file_item(tree, path, serials):
    number = tree.file_at(path)
    data = ()
    if number not in serials:
        serials[number] = len(serials) + 1
        data = tree.data_at(path)
    return item_of(path, serials[number], FILE_MODE, len(tree.paths_with(number)), data)


def item_of(name, serial, mode, names, data):
    row = head_row(serial, mode, names, len(data), len(name) + 1)
    row.extend(name)
    row.append(0)
    row.extend([0] * zeros_behind(len(row)))
    row.extend(data)
    row.extend([0] * zeros_behind(len(data)))
    return row
