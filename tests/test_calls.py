"""The calls reset, feed, state, kind, size, and the list that all calls come in."""

import contextlib
import io
import unittest

from archives import (
    RESET, STATE, WRITE, ask, directory, end, feed, file, following, kind, last, link, names, read, same, shared, size,
    written,
)
from firsttree.desk import answers

TREE = (
    directory(b"d") + file(b"d/f", b"12345") + shared(b"a") + shared(b"b", b"xyz")
    + link(b"d/l", b"to/f") + file(b"e") + directory(b"d/d")
)
PATHS = {b"d": 2, b"d/f": 1, b"a": 1, b"b": 1, b"d/l": 3, b"e": 1, b"d/d": 2}
SIZES = {b"d": [-2], b"d/f": [0, 5], b"a": [0, 3], b"b": [0, 3], b"d/l": [0, 4], b"e": [0, 0], b"d/d": [-2]}
NO_PATHS = [b"", b".", b"..", b"/", b"/d", b"d/", b"d//f", b"d/.", b"d/../d", b"d\0", b"\0", b"TRAILER!!!",
            b"x" * 255, b"x" * 256, b"d/" + b"x" * 998, bytes(1000), b"\xff"]

# Each of the ten calls, some of them twice.
TEN = (
    STATE + feed(TREE) + read(b"d/f", 1, 3) + same(b"a", b"b") + following(b"d") + names(b"b") + kind(b"d") + size(b"a")
    + WRITE + STATE + same(b"", b"a") + RESET + WRITE + feed(b"x") + names(b"a") + following(b"")
)


class TestList(unittest.TestCase):
    def test_empty_list(self):
        self.assertEqual(answers([]), [])

    def test_each_of_the_ten(self):
        archive = written(TREE)
        empty = written(b"")
        self.assertEqual(answers(TEN), [
            6, 0, 0, 0, 1, 0, 0, 3, 0, 0, len(TREE), 4, 0, 50, 51, 52, 2, 0, 1, 4, 0, 100, 47, 100,
            5, 0, 1, 97, 1, 98, 2, 0, 2, 2, 0, 3, 1 + len(archive), 0, *archive, 6, 0, 0, len(TREE), 0, 7, 8,
            2, 0, 0, 1, 0, 1 + len(empty), 0, *empty, 3, 0, 1, 0, 1, -1, 1, -1,
        ])

    def test_each_alone(self):
        alone = [
            ([1], [1, 0]), ([2, 0], [3, 0, 0, 0]), ([2, 1, 0], [3, 0, 0, 1]), ([3], [6, 0, 0, 0, 1, 0, 0]),
            ([4, 0], [2, 0, 0]), ([5, 0], [1, -1]), ([6, 0, 0, 0], [1, -1]), ([6, 1000000, 1000000, 2, 97, 98], [1, -1]),
            ([7, 0, 0], [2, 0, 0]), ([7, 1, 97, 0], [2, 0, 0]), ([7, 0, 2, 97, 98], [2, 0, 0]), ([8, 0], [1, -1]),
            ([9, 0], [1, -1]), ([10], [125, 0, *written(b"")]),
        ]
        for calls, told in alone:
            self.assertEqual(answers(calls), told)
            self.assertEqual(answers([3] + calls + [1]), [6, 0, 0, 0, 1, 0, 0] + told + [1, 0])

    def test_handed_in_is_unchanged_by_each_of_the_ten(self):
        calls = list(TEN)
        first = answers(calls)
        self.assertEqual(calls, TEN)
        self.assertEqual(answers(calls), first)
        self.assertEqual(calls, TEN)

    def test_nothing_is_kept_of_what_is_written(self):
        other = shared(b"q", b"1") + shared(b"r")
        fresh = answers(feed(other) + WRITE + names(b"q"))
        answers(TEN)
        answers(feed(TREE) + WRITE)
        self.assertEqual(answers(feed(other) + WRITE + names(b"q")), fresh)
        self.assertEqual(answers(WRITE + following(b"")), [125, 0, *written(b""), 1, -1])

    def test_counts_stand_before_the_answers(self):
        self.assertEqual(
            answers([1, 2, 2, 0, 0, 3, 4, 1, 97, 5, 1, 97]),
            [1, 0, 3, 0, 0, 2, 6, 0, 0, 2, 1, 0, 0, 2, 0, 0, 1, -1],
        )

    def test_whole_numbers_in_a_list(self):
        told = answers(feed(TREE + end()) + STATE + kind(b"d") + size(b"a"))
        self.assertIs(type(told), list)
        self.assertEqual({type(number) for number in told}, {int})

    def test_handed_in_is_unchanged(self):
        calls = feed(TREE) + STATE + kind(b"a") + size(b"a") + RESET + feed(b"x")
        before = list(calls)
        first = answers(calls)
        self.assertEqual(calls, before)
        self.assertEqual(answers(calls), first)
        self.assertEqual(calls, before)

    def test_answer_is_a_new_list_each_time(self):
        calls = feed(TREE) + STATE
        first = answers(calls)
        first.clear()
        self.assertEqual(len(answers(calls)), 11)

    def test_nothing_is_kept(self):
        fresh = answers(STATE + kind(b"d") + size(b"d"))
        answers(feed(TREE))
        answers(feed(b"?"))
        self.assertEqual(answers(STATE + kind(b"d") + size(b"d")), fresh)

    def test_links_are_not_kept(self):
        stream = shared(b"a", b"123")
        self.assertEqual(answers(feed(stream) + STATE), answers(feed(stream) + STATE))
        self.assertEqual(last(shared(b"b"), size(b"b")), [[0, 0]])

    def test_prints_nothing(self):
        printed = io.StringIO()
        with contextlib.redirect_stdout(printed), contextlib.redirect_stderr(printed):
            answers(TEN)
        self.assertEqual(printed.getvalue(), "")

    def test_longest_lists(self):
        stream = TREE + end()
        stream += bytes(8000 - len(stream))
        self.assertEqual(last(stream, STATE), [[0, 0, 8000, 1, 7, 8]])
        paths = [kind(bytes([120] * 1000))] * 8
        self.assertEqual(ask(*paths), [[0, 0]] * 8)

    def test_forty_calls(self):
        self.assertEqual(ask(*[feed(b"\0")] * 39, STATE)[-1], [0, 0, 39, 1, 0, 0])


class TestNewObject(unittest.TestCase):
    def test_reset(self):
        self.assertEqual(ask(RESET, STATE), [[0], [0, 0, 0, 1, 0, 0]])

    def test_feed(self):
        self.assertEqual(ask(feed(b"")), [[0, 0, 0]])
        self.assertEqual(ask(feed(b"0")), [[0, 0, 1]])
        self.assertEqual(ask(feed(b"\0\0"), feed(b""), feed(b"07")), [[0, 0, 2], [0, 0, 2], [0, 0, 4]])

    def test_state(self):
        self.assertEqual(ask(STATE), [[0, 0, 0, 1, 0, 0]])

    def test_kind_and_size(self):
        for path in list(PATHS) + NO_PATHS:
            self.assertEqual(ask(kind(path), size(path)), [[0, 0], [-1]])


class TestTree(unittest.TestCase):
    def check_tree(self, *before):
        for path, number in PATHS.items():
            self.assertEqual(ask(*before, kind(path), size(path))[-2:], [[0, number], SIZES[path]])
        for path in NO_PATHS + [b"f", b"d/a", b"D", b"aa", b"d/f/x"]:
            self.assertEqual(ask(*before, kind(path), size(path))[-2:], [[0, 0], [-1]])

    def test_within_the_archive(self):
        self.check_tree(feed(TREE))
        self.assertEqual(last(TREE, STATE), [[0, 0, len(TREE), 0, 7, 8]])

    def test_behind_the_archive(self):
        self.check_tree(feed(TREE + end()))
        self.assertEqual(last(TREE + end(), STATE), [[0, 0, len(TREE) + 121, 1, 7, 8]])

    def test_behind_a_fault(self):
        self.check_tree(feed(TREE + b"x"))
        self.check_tree(feed(TREE), feed(b"x"), feed(file(b"d/f")))
        self.assertEqual(last(TREE + b"x", STATE), [[0, 1, len(TREE), 0, 7, 8]])

    def test_behind_other_trees_and_reset(self):
        self.check_tree(feed(file(b"q", b"1") + b"x"), RESET, feed(TREE))

    def test_asking_changes_nothing(self):
        questions = [call for path in PATHS for call in (kind(path), size(path))]
        self.check_tree(feed(TREE[:300]), *questions, STATE, feed(TREE[300:]), *questions, STATE)

    def test_lowest_and_highest_bytes(self):
        name = bytes(byte for byte in range(1, 256) if byte != 47)
        self.assertEqual(last(file(name, bytes(range(256))), kind(name), size(name)), [[0, 1], [0, 256]])


class TestReset(unittest.TestCase):
    def check_new(self, *before):
        told = ask(*before, RESET, STATE, kind(b"d"), size(b"a"), feed(b""))
        self.assertEqual(told[-5:], [[0], [0, 0, 0, 1, 0, 0], [0, 0], [-1], [0, 0, 0]])

    def test_of_a_tree(self):
        self.check_new(feed(TREE))
        self.check_new(feed(TREE + end()))

    def test_of_a_fault(self):
        self.check_new(feed(TREE + b"x"))

    def test_of_half_an_item(self):
        for cut in (3, 111, 115, 260, 262):
            self.check_new(feed(TREE[:cut]))
            told = ask(feed(TREE[:cut]), RESET, feed(TREE), STATE)
            self.assertEqual(told[-1], [0, 0, len(TREE), 0, 7, 8])

    def test_links_end(self):
        told = ask(feed(shared(b"a", b"123")), RESET, feed(shared(b"a")), size(b"a"))
        self.assertEqual(told[-1], [0, 0])

    def test_twice(self):
        self.assertEqual(ask(feed(b"x"), RESET, RESET, STATE)[-2:], [[0], [0, 0, 0, 1, 0, 0]])


class TestFeedBehindFault(unittest.TestCase):
    def test_nothing_told_changes(self):
        for wrong in (b"x", file(b"d"), file(b"z", b"1" * 593), directory(b"d") + b"1"):
            stream = TREE + wrong
            told = ask(feed(stream), STATE, feed(b""), feed(file(b"new")), feed(end()), STATE, kind(b"new"), size(b"a"))
            self.assertEqual(told[2:5], [told[0]] * 3)
            self.assertNotEqual(told[0][1], 0)
            self.assertEqual(told[5], told[1])
            self.assertEqual(told[6:], [[0, 0], [0, 3]])


if __name__ == "__main__":
    unittest.main()
