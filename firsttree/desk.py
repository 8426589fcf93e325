"""The desk: a list of calls in, the list of their answers out."""

from firsttree.questions import kind_answer, names_answer, next_answer, read_answer, same_answer, size_answer
from firsttree.stream import Stream
from firsttree.writer import archive_of

RESET = 1
FEED = 2
STATE = 3
KIND = 4
SIZE = 5
READ = 6
SAME = 7
NEXT = 8
WRITE = 10
# How many whole numbers stand behind each call's number, and then how many
# rows, each with its length before it.
FORMS = {
    1: (0, 0), 2: (0, 1), 3: (0, 0), 4: (0, 1), 5: (0, 1),
    6: (2, 1), 7: (0, 2), 8: (0, 1), 9: (0, 1), 10: (0, 0),
}


class Desk:
    def __init__(self):
        self.stream = Stream()

    def answer(self, call, numbers, rows):
        if call == RESET:
            self.stream = Stream()
            return [0]
        if call == FEED:
            self.stream.feed(rows[0])
            return [0] + fault_of(self.stream)
        if call == STATE:
            return [0] + state_of(self.stream)
        tree = self.stream.builder.tree
        if call == WRITE:
            return [0] + archive_of(tree)
        return path_answer(tree, call, numbers, [tuple(row) for row in rows])


def fault_of(stream):
    return [stream.code, stream.place]


def state_of(stream):
    tree = stream.builder.tree
    ending = 1 if stream.may_end() else 0
    return fault_of(stream) + [ending, tree.path_count(), tree.byte_count()]


def path_answer(tree, call, numbers, paths):
    path = paths[0]
    if call == KIND:
        return kind_answer(tree, path)
    if call == SIZE:
        return size_answer(tree, path)
    if call == READ:
        return read_answer(tree, path, numbers[0], numbers[1])
    if call == SAME:
        return same_answer(tree, path, paths[1])
    if call == NEXT:
        return next_answer(tree, path)
    return names_answer(tree, path)


# The rows that begin at this place, as many as there are to be.
def rows_at(calls, at, wanted):
    rows = []
    while len(rows) < wanted:
        row = calls[at + 1:at + 1 + calls[at]]
        rows.append(row)
        at += 1 + len(row)
    return rows


def answers(calls):
    desk = Desk()
    answered = []
    at = 0
    while at < len(calls):
        call = calls[at]
        form = FORMS[call]
        at += 1
        numbers = calls[at:at + form[0]]
        at += len(numbers)
        rows = rows_at(calls, at, form[1])
        at += sum([1 + len(row) for row in rows])
        answer = desk.answer(call, numbers, rows)
        answered.append(len(answer))
        answered.extend(answer)
    return answered
