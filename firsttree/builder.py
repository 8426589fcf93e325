"""What an item does to the tree, and why it may not."""

from firsttree.head import ROOT, TRAILER, name_fits
from firsttree.kinds import DIRECTORY, FILE, LINK, NOTHING
from firsttree.paths import parent_of
from firsttree.tree import Tree

WRONG_NAME = 3
WRONG_PLACE = 4
NO_ROOM = 5
MOST_PATHS = 16
MOST_BYTES = 600
# From this names number on a file may have several paths.
SEVERAL_NAMES = 2


class Builder:
    def __init__(self):
        self.tree = Tree()
        # Of this archive alone: serial, major and minor, and the number of
        # the file that the items with these and several names have.
        self.linked = {}

    def end_archive(self):
        self.linked = {}

    # The fault's code, or 0; the name comes without its last byte.
    def name_fault(self, head, name):
        if not name_fits(head, name):
            return WRONG_NAME
        if name == TRAILER or name == ROOT:
            return 0
        if not self.has_place(head, name):
            return WRONG_PLACE
        if not self.has_room(head, name):
            return NO_ROOM
        return 0

    def has_place(self, head, path):
        parent = parent_of(path)
        if parent is not None and self.tree.kind_at(parent) != DIRECTORY:
            return False
        return self.tree.kind_at(path) in (NOTHING, head.kind)

    def has_room(self, head, path):
        if self.tree.kind_at(path) == NOTHING and self.tree.path_count() == MOST_PATHS:
            return False
        # Size 0 adds no byte: a file that is there already keeps its own.
        if head.kind != FILE or head.size == 0:
            return True
        return self.tree.byte_count_with(path, self.linked_file(head), head.size) <= MOST_BYTES

    # The number of the file that this item gives one more name; 0 if none.
    def linked_file(self, head):
        if head.names < SEVERAL_NAMES:
            return 0
        number = self.linked.get(link_key(head), 0)
        if not self.tree.has_file(number):
            return 0
        return number

    def do_item(self, head, name, data):
        if name == ROOT:
            return
        if head.kind == DIRECTORY:
            self.tree.put_directory(name)
        elif head.kind == LINK:
            self.tree.put_link(name, data)
        else:
            self.do_file(head, name, data)

    def do_file(self, head, path, data):
        number = self.linked_file(head)
        if number == 0:
            number = self.tree.put_new_file(path, data)
        else:
            self.tree.put_name(path, number)
            if head.size != 0:
                self.tree.change_data(number, data)
        if head.names >= SEVERAL_NAMES:
            self.linked[link_key(head)] = number


def link_key(head):
    return (head.serial, head.major, head.minor)
