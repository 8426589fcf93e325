"""The desk: a list of calls in, the list of their answers out."""

from firsttree.kinds import DIRECTORY, NOTHING
from firsttree.stream import Stream

RESET = 1
FEED = 2
STATE = 3
KIND = 4
# How many rows stand behind each call's number.
ROWS = {1: 0, 2: 1, 3: 0, 4: 1, 5: 1}


class Desk:
    def __init__(self):
        self.stream = Stream()

    def answer(self, call, rows):
        if call == RESET:
            self.stream = Stream()
            return [0]
        if call == FEED:
            self.stream.feed(rows[0])
            return [0] + fault_of(self.stream)
        if call == STATE:
            return [0] + state_of(self.stream)
        path = tuple(rows[0])
        tree = self.stream.builder.tree
        if call == KIND:
            return [0, tree.kind_at(path)]
        return size_answer(tree, path)


def fault_of(stream):
    return [stream.code, stream.place]


def state_of(stream):
    tree = stream.builder.tree
    ending = 1 if stream.may_end() else 0
    return fault_of(stream) + [ending, tree.path_count(), tree.byte_count()]


def size_answer(tree, path):
    kind = tree.kind_at(path)
    if kind == NOTHING:
        return [-1]
    if kind == DIRECTORY:
        return [-2]
    return [0, len(tree.data_at(path))]


def answers(calls):
    desk = Desk()
    answered = []
    at = 0
    while at < len(calls):
        call = calls[at]
        at += 1
        rows = []
        while len(rows) < ROWS[call]:
            row = calls[at + 1:at + 1 + calls[at]]
            rows.append(row)
            at += 1 + len(row)
        answer = desk.answer(call, rows)
        answered.append(len(answer))
        answered.extend(answer)
    return answered
