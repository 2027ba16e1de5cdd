import itertools
import unittest

from appendhall.errors import BadPath
from appendhall.paths import is_path, is_within, join_path, split_path
from tests.samples import INTEGERS, Touchy, nested, odd_things

NAMES = ["a", "z", "0", "9", "-", "a.", ".a", "...", "-.", "notes", "day-1", "x" * 12, "." * 12, "a.b-c.d-1", "..a"]
NO_NAMES = [
    "", ".", "..", "x" * 13, "x" * 200, "x" * 10000, "." * 13, "A", "Z", "aB", "a b", " a", "a ", "a_b", "a/b", "/",
    "/a", "a/", "~", "a\n", "\n", "a\t", "a\x25", "\x25", "a:b", "a+b", "@", "[", "`", "{", ",", "a,", "a\\b", "a'b",
]
NO_PATHS = [
    "", "a", "a/b", "//", "///", "/a/", "/a//", "//a", "/a//b", "/a/b/", " /a", "/a ", "/ ", "a/", "./a", "/.", "/..",
    "/a/.", "/a/..", "/./a", "/../a", "/A", "/a/B", "\n", "/a\n", "\\a", "/" * 7, "/" * 200, "/a" * 7, "/a" * 100,
    "/a" * 100000,
]
OTHER_THINGS = [["a"], ["/", "a"], ("/a",), ("a",), {"/a": 1}, b"/a", b"/", nested(60, "/a")] + INTEGERS


class SplitTest(unittest.TestCase):
    def test_4_2_the_examples(self):
        self.assertEqual(split_path("/notes/day-1"), ["notes", "day-1"])
        with self.assertRaises(BadPath):
            split_path("/notes/")

    def test_4_2_none_to_seven_names(self):
        self.assertEqual(split_path("/"), [])
        for count in range(1, 7):
            names = NAMES[:count]
            self.assertEqual(split_path("/" + "/".join(names)), names)
            self.assertEqual(split_path(("/" + "x" * 12) * count), ["x" * 12] * count)
        for count in (7, 8, 100):
            with self.assertRaises(BadPath):
                split_path("/a" * count)

    def test_4_1_names(self):
        for name in NAMES:
            self.assertEqual(split_path("/" + name), [name])
            self.assertEqual(split_path("/a/" + name + "/b"), ["a", name, "b"])

    def test_4_1_each_character(self):
        allowed = "abcdefghijklmnopqrstuvwxyz0123456789-."
        for code in range(0, 300):
            char = chr(code)
            for name in (char + "a", "a" + char, "a" + char + "b"):
                with self.subTest(code=code):
                    if char in allowed:
                        self.assertEqual(split_path("/" + name), [name])
                    elif char != "/":
                        with self.assertRaises(BadPath):
                            split_path("/" + name)
                        with self.assertRaises(BadPath):
                            join_path([name])

    def test_4_1_what_is_no_name(self):
        for name in NO_NAMES:
            if name in ("", "a/b"):
                continue
            for path in ("/" + name, "/a/" + name, "/" + name + "/a"):
                with self.subTest(path=path[:40]):
                    with self.assertRaises(BadPath):
                        split_path(path)

    def test_4_2_what_is_no_path(self):
        for at, path in enumerate(NO_PATHS + OTHER_THINGS + odd_things()):
            with self.subTest(at=at):
                with self.assertRaises(BadPath):
                    split_path(path)

    def test_0_4_the_list_is_new(self):
        split_path("/").append("a")
        self.assertEqual(split_path("/"), [])
        names = split_path("/a/b")
        names.clear()
        self.assertEqual(split_path("/a/b"), ["a", "b"])


class IsPathTest(unittest.TestCase):
    def test_4_2_paths(self):
        for path in ["/"] + ["/" + name for name in NAMES] + ["/a" * count for count in range(1, 7)]:
            self.assertIs(is_path(path), True)

    def test_4_2_what_is_no_path(self):
        for at, thing in enumerate(NO_PATHS + OTHER_THINGS + odd_things()):
            with self.subTest(at=at):
                self.assertIs(is_path(thing), False)


class JoinTest(unittest.TestCase):
    def test_4_2_the_example(self):
        self.assertEqual(join_path([]), "/")

    def test_4_2_one_to_six_names(self):
        for count in range(1, 7):
            for names in (NAMES[:count], NAMES[-count:], ["x" * 12] * count):
                path = join_path(names)
                self.assertEqual(path, "".join("/" + name for name in names))
                self.assertEqual(split_path(path), names)

    def test_4_2_more_than_six_names(self):
        for count in (7, 8, 1000):
            with self.assertRaises(BadPath):
                join_path(["a"] * count)

    def test_4_1_lists_with_something_that_is_no_name(self):
        for at, thing in enumerate(NO_NAMES + INTEGERS + [("a",), b"a", nested(60)] + odd_things()):
            for names in ([thing], ["a", thing], [thing, "a"], ["a"] * 5 + [thing]):
                with self.subTest(at=at):
                    kept = list(names)
                    with self.assertRaises(BadPath):
                        join_path(names)
                    self.assertTrue(len(kept) == len(names) and all(a is b for a, b in zip(kept, names)))

    def test_4_2_what_is_no_list(self):
        things = ["", "/", "/a", "a", "abc", (), ("a",), {}, {"a": 1}, b"a", nested(60), 5, None, True, 1.0, Touchy()]
        for at, thing in enumerate(things + [iter(["a"]), {"a"}]):
            with self.subTest(at=at):
                with self.assertRaises(BadPath):
                    join_path(thing)

    def test_0_4_the_list_stays_as_it_was(self):
        names = ["b", "a"]
        join_path(names)
        self.assertEqual(names, ["b", "a"])


class WithinTest(unittest.TestCase):
    def test_4_3_the_example(self):
        self.assertIs(is_within("/notes2", "/notes"), False)

    def test_4_3_all_small_paths(self):
        rows = [list(row) for size in range(4) for row in itertools.product(("a", "ab", "b"), repeat=size)]
        for names, outer in itertools.product(rows, repeat=2):
            wanted = len(outer) <= len(names) and all(a == b for a, b in zip(names, outer))
            self.assertIs(is_within(join_path(names), join_path(outer)), wanted)

    def test_4_3_each_path_is_within_itself_and_the_root(self):
        for path in ("/", "/a", "/a/b", "/a" * 6):
            self.assertIs(is_within(path, path), True)
            self.assertIs(is_within(path, "/"), True)
        self.assertIs(is_within("/", "/a"), False)
        self.assertIs(is_within("/a", "/a/b"), False)
        self.assertIs(is_within("/b/a", "/a/b"), False)
        self.assertIs(is_within("/b/a", "/a"), False)

    def test_4_3_what_is_no_path(self):
        for at, thing in enumerate(NO_PATHS + OTHER_THINGS + odd_things()):
            with self.subTest(at=at):
                for path, other in ((thing, "/"), ("/", thing), (thing, "/a"), ("/a", thing), (thing, thing)):
                    with self.assertRaises(BadPath):
                        is_within(path, other)


if __name__ == "__main__":
    unittest.main()
