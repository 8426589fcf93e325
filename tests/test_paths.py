"""What a path is, by itself."""

import unittest

from firsttree.paths import is_path, parent_of


class TestPaths(unittest.TestCase):
    def test_paths(self):
        for name in (b"a", b"a/b", b"...", b".a/b.", b"\xff", b"x" * 255, b"a/" * 127 + b"a"):
            self.assertTrue(is_path(tuple(name)), name)

    def test_no_paths(self):
        for name in (b"", b".", b"..", b"/", b"/a", b"a/", b"a//b", b"a/./b", b"../a", b"a/..", b"a\0", b"x" * 256):
            self.assertFalse(is_path(tuple(name)), name)

    def test_parent(self):
        for path, parent in ((b"a/b", b"a"), (b"a/bc/def", b"a/bc"), (b"ab/c", b"ab")):
            self.assertEqual(parent_of(tuple(path)), tuple(parent))
        for path in (b"a", b"abc", b"..."):
            self.assertIsNone(parent_of(tuple(path)))


if __name__ == "__main__":
    unittest.main()
