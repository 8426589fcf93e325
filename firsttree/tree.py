"""The tree: which paths have what, and the bytes of its files."""

from firsttree.kinds import DIRECTORY, FILE, LINK, NOTHING


class Tree:
    def __init__(self):
        # Of each path that has something its kind.
        self.kinds = {}
        # Of each symbolic link's path its text.
        self.texts = {}
        # Of each file's path the file's number, the same for the same file.
        self.holders = {}
        # Of each file's number its bytes; a file that is gone is not here.
        self.contents = {}
        # No number is given twice, so that a file that is gone stays gone.
        self.last_number = 0

    def kind_at(self, path):
        return self.kinds.get(path, NOTHING)

    # Of a file its bytes, of a symbolic link its text.
    def data_at(self, path):
        if self.kinds[path] == FILE:
            return self.contents[self.holders[path]]
        return self.texts[path]

    # The number of the path's file; 0 if it has none.
    def file_at(self, path):
        return self.holders.get(path, 0)

    def ordered_paths(self):
        return sorted(self.kinds)

    # All paths that have this file, in paths' order.
    def paths_with(self, number):
        return sorted([path for path in self.holders if self.holders[path] == number])

    def path_count(self):
        return len(self.kinds)

    def byte_count(self):
        return sum([len(data) for data in self.contents.values()])

    def has_file(self, number):
        return number in self.contents

    # The files' bytes together, if path had the file of this number, and
    # that file so many bytes. (0 is the number of a file that is yet to come.)
    def byte_count_with(self, path, number, size):
        total = size
        for other in self.contents:
            if other != number and self.is_held_beside(path, other):
                total += len(self.contents[other])
        return total

    def is_held_beside(self, path, number):
        return any([self.holders[other] == number for other in self.holders if other != path])

    def put_directory(self, path):
        self.kinds[path] = DIRECTORY

    def put_link(self, path, text):
        self.kinds[path] = LINK
        self.texts[path] = text

    # Gives back the new file's number.
    def put_new_file(self, path, data):
        self.last_number += 1
        self.contents[self.last_number] = data
        self.put_name(path, self.last_number)
        return self.last_number

    def put_name(self, path, number):
        before = self.holders.get(path, number)
        self.kinds[path] = FILE
        self.holders[path] = number
        if before != number and not self.is_held_beside(path, before):
            self.contents.pop(before)

    def change_data(self, number, data):
        self.contents[number] = data
