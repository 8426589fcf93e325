"""Files with several paths: which items are one file, and when it is gone."""

import unittest

from archives import STATE, directory, end, fault, file, kind, last, shared, size


def told(stream, *paths):
    """How many paths, how many bytes of files, and each path's size."""
    answers = last(stream, STATE, *[size(path) for path in paths])
    state = answers[0]
    assert state[1] == 0, state
    return state[4:] + [answer[-1] for answer in answers[1:]]


class TestOneFile(unittest.TestCase):
    def test_data_come_last(self):
        stream = shared(b"a") + shared(b"b") + shared(b"c", b"xyz")
        self.assertEqual(told(stream, b"a", b"b", b"c"), [3, 3, 3, 3, 3])

    def test_data_come_first(self):
        stream = shared(b"a", b"xyz") + shared(b"b") + shared(b"c")
        self.assertEqual(told(stream, b"a", b"b", b"c"), [3, 3, 3, 3, 3])

    def test_data_told_anew(self):
        stream = shared(b"a", b"xyz") + shared(b"b", b"12345") + shared(b"c")
        self.assertEqual(told(stream, b"a", b"b", b"c"), [3, 5, 5, 5, 5])
        self.assertEqual(told(stream + shared(b"a", b"1"), b"a", b"b", b"c"), [3, 1, 1, 1, 1])

    def test_all_size_0(self):
        self.assertEqual(told(shared(b"a") + shared(b"b"), b"a", b"b"), [2, 0, 0, 0])

    def test_names_numbers_need_not_agree(self):
        stream = shared(b"a", b"xyz", names=2) + shared(b"b", names=3) + shared(b"c", names=0xFFFFFFFF)
        self.assertEqual(told(stream, b"a", b"b", b"c"), [3, 3, 3, 3, 3])

    def test_more_names_than_told(self):
        stream = b"".join(shared(b"%d" % number) for number in range(15)) + shared(b"x", b"12")
        self.assertEqual(told(stream, b"0", b"9", b"14", b"x"), [16, 2, 2, 2, 2, 2])

    def test_other_items_between(self):
        stream = shared(b"a", b"xyz") + directory(b"d", serial=7, names=2) + file(b"f", b"1") + shared(b"d/b")
        self.assertEqual(told(stream, b"a", b"d/b", b"f"), [4, 4, 3, 3, 1])

    def test_two_files_side_by_side(self):
        stream = (
            shared(b"a", b"1", serial=1) + shared(b"b", b"22", serial=2)
            + shared(b"c", serial=1) + shared(b"d", serial=2) + shared(b"e", b"4444", serial=1)
        )
        self.assertEqual(told(stream, b"a", b"c", b"e", b"b", b"d"), [5, 6, 4, 4, 4, 2, 2])

    def test_great_numbers(self):
        most = 0xFFFFFFFF
        stream = shared(b"a", b"1", serial=most, major=most, minor=most)
        self.assertEqual(told(stream + shared(b"b", serial=most, major=most, minor=most), b"b"), [2, 1, 1])


class TestDifferentFiles(unittest.TestCase):
    def check_apart(self, first, second):
        self.assertEqual(told(first(b"a", b"xyz") + second(b"b"), b"a", b"b"), [2, 3, 3, 0])
        self.assertEqual(told(first(b"a", b"xyz") + second(b"b", b"12"), b"a", b"b"), [2, 5, 3, 2])

    def test_another_serial_major_or_minor(self):
        for number in (1, 6, 8, 0x10000007, 0xFFFFFFFF):
            self.check_apart(shared, lambda *given, other=number: shared(*given, serial=other))
            self.check_apart(shared, lambda *given, other=number: shared(*given, major=other))
            self.check_apart(shared, lambda *given, other=number: shared(*given, minor=other))

    def test_major_and_minor_the_other_way_round(self):
        self.check_apart(
            lambda *given: shared(*given, major=1, minor=2),
            lambda *given: shared(*given, major=2, minor=1),
        )

    def test_serial_and_major_the_other_way_round(self):
        self.check_apart(
            lambda *given: shared(*given, serial=1, major=2),
            lambda *given: shared(*given, serial=2, major=1),
        )

    def test_names_below_2(self):
        for names in (0, 1):
            self.check_apart(shared, lambda *given, few=names: shared(*given, names=few))
            self.check_apart(lambda *given, few=names: shared(*given, names=few), shared)
            self.check_apart(
                lambda *given, few=names: shared(*given, names=few),
                lambda *given, few=names: shared(*given, names=few),
            )

    def test_an_item_with_names_below_2_does_not_break_the_rest(self):
        stream = shared(b"a", b"xyz") + shared(b"b", b"1", names=1) + shared(b"c")
        self.assertEqual(told(stream, b"a", b"b", b"c"), [3, 4, 3, 1, 3])

    def test_different_archives(self):
        for mode in (0, 0x81A4, 0x41ED, 0xA1FF):
            for between in range(5):
                stream = shared(b"a", b"xyz") + end(mode) + bytes(between) + shared(b"b")
                self.assertEqual(told(stream, b"a", b"b"), [2, 3, 3, 0])
                self.assertEqual(told(stream + shared(b"c", b"1"), b"a", b"b", b"c"), [3, 4, 3, 1, 1])

    def test_the_same_path_in_another_archive(self):
        stream = shared(b"a", b"xyz") + shared(b"b") + end() + shared(b"a")
        self.assertEqual(told(stream, b"a", b"b"), [2, 3, 0, 3])
        self.assertEqual(told(stream + shared(b"b", b"1"), b"a", b"b"), [2, 1, 1, 1])

    def test_an_end_is_no_such_item(self):
        stream = end(0x81A4, serial=7, names=2) + shared(b"a", b"1")
        self.assertEqual(told(stream, b"a"), [1, 1, 1])


class TestReplaced(unittest.TestCase):
    def test_a_path_goes_over_to_a_new_file(self):
        stream = shared(b"a", b"xyz") + shared(b"b") + file(b"a", b"1")
        self.assertEqual(told(stream, b"a", b"b"), [2, 4, 1, 3])
        self.assertEqual(told(stream + shared(b"c"), b"a", b"b", b"c"), [3, 4, 1, 3, 3])

    def test_a_path_goes_over_to_a_shared_file(self):
        stream = file(b"a", b"12345") + shared(b"b", b"xyz") + shared(b"a")
        self.assertEqual(told(stream, b"a", b"b"), [2, 3, 3, 3])

    def test_a_path_goes_from_one_shared_file_to_another(self):
        stream = shared(b"a", b"1", serial=1) + shared(b"b", serial=1) + shared(b"c", b"22", serial=2)
        stream += shared(b"b", serial=2)
        self.assertEqual(told(stream, b"a", b"b", b"c"), [3, 3, 1, 2, 2])
        stream += shared(b"a", b"333", serial=2)
        self.assertEqual(told(stream, b"a", b"b", b"c"), [3, 3, 3, 3, 3])

    def test_the_same_path_again(self):
        self.assertEqual(told(shared(b"a", b"xyz") + shared(b"a"), b"a"), [1, 3, 3])
        self.assertEqual(told(shared(b"a", b"xyz") + shared(b"a", b"1"), b"a"), [1, 1, 1])
        stream = shared(b"a", b"xyz") + shared(b"b") + shared(b"a", b"12")
        self.assertEqual(told(stream, b"a", b"b"), [2, 2, 2, 2])

    def test_the_same_path_again_without_several_names(self):
        self.assertEqual(told(file(b"a", b"xyz", serial=7) + file(b"a", serial=7), b"a"), [1, 0, 0])


class TestGone(unittest.TestCase):
    def test_no_path_is_left(self):
        stream = shared(b"a", b"xyz") + file(b"a", b"1")
        self.assertEqual(told(stream, b"a"), [1, 1, 1])
        stream += shared(b"b")
        self.assertEqual(told(stream, b"a", b"b"), [2, 1, 1, 0])

    def test_behind_a_gone_file_a_new_one_is_shared(self):
        stream = shared(b"a", b"xyz") + file(b"a", b"1") + shared(b"b") + shared(b"c", b"4444")
        self.assertEqual(told(stream, b"a", b"b", b"c"), [3, 5, 1, 4, 4])

    def test_gone_twice(self):
        stream = shared(b"a", b"xyz") + file(b"a") + shared(b"a", b"12") + file(b"a") + shared(b"b") + shared(b"c", b"1")
        self.assertEqual(told(stream, b"a", b"b", b"c"), [3, 1, 0, 1, 1])

    def test_the_last_of_several_paths_goes(self):
        stream = shared(b"a", b"xyz") + shared(b"b") + file(b"a", b"1")
        self.assertEqual(told(stream, b"a", b"b"), [2, 4, 1, 3])
        stream += file(b"b", b"22")
        self.assertEqual(told(stream, b"a", b"b"), [2, 3, 1, 2])
        self.assertEqual(told(stream + shared(b"c"), b"c"), [3, 3, 0])

    def test_the_first_item_s_path_goes_and_the_file_stays(self):
        stream = shared(b"a", b"xyz") + shared(b"b") + file(b"a") + shared(b"c") + file(b"b") + shared(b"d")
        self.assertEqual(told(stream, b"a", b"b", b"c", b"d"), [4, 3, 0, 0, 3, 3])

    def test_a_path_that_goes_over_frees_its_old_file(self):
        stream = shared(b"a", b"1", serial=1) + shared(b"b", b"22", serial=2) + shared(b"a", serial=2)
        self.assertEqual(told(stream, b"a", b"b"), [2, 2, 2, 2])
        self.assertEqual(told(stream + shared(b"c", serial=1), b"c"), [3, 2, 0])

    def test_gone_in_a_later_archive(self):
        stream = shared(b"a", b"xyz") + end() + file(b"a", b"1") + end() + shared(b"a")
        self.assertEqual(told(stream, b"a"), [1, 0, 0])


class TestHalfAnItem(unittest.TestCase):
    def test_half_an_item_shares_nothing(self):
        stream = shared(b"a", b"xyz") + shared(b"b", b"12345")
        self.assertEqual(last(stream[:-4], kind(b"b"), size(b"a")), [[0, 0], [0, 3]])
        self.assertEqual(fault(stream[:-4]), (0, len(stream) - 4))


if __name__ == "__main__":
    unittest.main()
