import itertools
import unittest

from appendhall.commands import format_command, parse_command
from appendhall.errors import BadCommand, BadPath
from tests.model import random_deeds
from tests.samples import ALLOWED_CHARS, FAR, MOST, NO_TEXTS, TEXTS, odd_things

# Lines with the deeds that they write.
PAIRS = [
    ("mkdir /a", ("mkdir", "/a")),
    ("create /a/b-1/c.txt", ("create", "/a/b-1/c.txt")),
    ("append /a x", ("append", "/a", "x")),
    ("append /notes  two  words", ("append", "/notes", " two  words")),
    ("append /a ", ("append", "/a", "")),
    ("append /a  ", ("append", "/a", " ")),
    ("append /a   x  ", ("append", "/a", "  x  ")),
    ("append / append /a x", ("append", "/", "append /a x")),
    ("seal /a", ("seal", "/a")),
    ("move /a /b/c", ("move", "/a", "/b/c")),
    ("snapshot /a /", ("snapshot", "/a", "/")),
    ("limit / 0", ("limit", "/", 0)),
    ("limit /a 7", ("limit", "/a", 7)),
    ("limit / 120", ("limit", "/", 120)),
    ("limit / 100000000000000000", ("limit", "/", 10 ** 17)),
    ("limit / 999999999999999999", ("limit", "/", MOST - 1)),
    ("mkdir /a/b/c/d/e/f", ("mkdir", "/a/b/c/d/e/f")),
    ("mkdir /" + "x" * 12, ("mkdir", "/" + "x" * 12)),
]

NO_COMMANDS = [
    # no word of the seven
    "", " ", "  ", "link /a", "Mkdir /a", "MKDIR /a", "mkdi /a", "mkdirs /a", "/a", "/a mkdir", "deed /a", "path /a",
    "number 1", "append\t/a x", "append\n/a x", "mkdir\t/a", "mkdir\n/a", "\nmkdir /a", " mkdir /a", "  append /a x",
    "appendix /a x",
    # too few and too many words
    "mkdir", "create", "seal", "append", "move", "snapshot", "limit", "append /a", "append ", "move /a", "snapshot /a",
    "limit /a", "limit 5", "mkdir /a /b", "create /a /b", "seal /a x", "move /a /b /c", "snapshot /a /b /c", "limit /a 5 6",
    "mkdir /a ", "mkdir /a  ", "create /a ", "seal /a ", "move /a /b ", "snapshot /a /b ", "limit /a 5 ", "mkdir  /a",
    "create  /a", "seal  /a", "move  /a /b", "move /a  /b", "snapshot  /a /b", "snapshot /a  /b", "limit  /a 5",
    "limit /a  5", "limit  ", "move /a /b  ",
    # no number
    "limit / ", "limit / -1", "limit / +1", "limit / -0", "limit / 00", "limit / 007", "limit / 01", "limit / 1_0",
    "limit / 1.0", "limit / 1e3", "limit / 0x1", "limit / x", "limit / 1x", "limit / x1", "limit / 1\t", "limit / \t1",
    "limit / 1\n", "limit / 1000000000000000000", "limit / 9999999999999999999", "limit / 000000000000000000",
    "limit / 0000000000000000001", "limit / \x31,000", "limit / ten", "limit / None", "limit / True",
]

BAD_PATHS = [
    "", "a", "notes", "//", "/a/", "//a", "/a//b", "/.", "/..", "/a/..", "/A", "/a_b", "/a/b/c/d/e/f/g", "/" + "x" * 13,
    "/a\tb", "/a\n", "\t", "/\x25", "x" * 201, "/a" * 300, "mkdir", "5", "-1",
]


def parse_error(line):
    try:
        parse_command(line)
    except (BadCommand, BadPath) as error:
        return type(error)
    return None


def format_error(deed):
    try:
        format_command(deed)
    except (BadCommand, BadPath) as error:
        return type(error)
    return None


class ParseTest(unittest.TestCase):
    def test_the_examples(self):
        self.assertEqual(parse_command("append /notes  two  words"), ("append", "/notes", " two  words"))
        self.assertEqual(parse_error("limit / 007"), BadCommand)
        self.assertEqual(parse_error("move /notes notes"), BadPath)

    def test_7_1_the_forms(self):
        for line, deed in PAIRS:
            with self.subTest(line=line):
                found = parse_command(line)
                self.assertEqual(found, deed)
                self.assertEqual([type(item) for item in found], [type(item) for item in deed])
                self.assertIs(type(found), tuple)

    def test_7_4_no_commands(self):
        for line in NO_COMMANDS:
            with self.subTest(line=line):
                self.assertEqual(parse_error(line), BadCommand)

    def test_7_4_what_is_no_path(self):
        for path in BAD_PATHS:
            lines = [f"append {path} x", f"append {path} "]
            lines += [f"{word} {path}" for word in ("mkdir", "create", "seal")]
            lines += [line for word in ("move", "snapshot") for line in
                      (f"{word} {path} /a", f"{word} /a {path}", f"{word} {path} {path}")]
            lines += [f"limit {path} {most}" for most in ("0", "5", "9" * 18)]
            for line in lines:
                with self.subTest(line=line):
                    self.assertEqual(parse_error(line), BadPath)

    def test_7_2_an_empty_word_as_a_path(self):
        for line in ("mkdir ", "create ", "seal ", "move  /a", "move /a ", "snapshot  /a", "snapshot /a ", "limit  5",
                     "append  ", "append  x", "append   x", "move  ", "snapshot  "):
            with self.subTest(line=line):
                self.assertEqual(parse_error(line), BadPath)

    def test_7_4_bad_command_comes_first(self):
        for path in ("", "a", "/A", "x" * 201, "/\x25"):
            for line in (f"limit {path} 007", f"limit {path} ", f"limit {path} -1", f"mkdir {path} x", f"move {path}",
                         f"append {path}", f"append {path} a\x25", f"append {path} \n", f"append {path} " + "x" * 201,
                         f"link {path}", f"move {path} {path} {path}", f"limit {path} " + "1" * 19):
                with self.subTest(line=line):
                    self.assertEqual(parse_error(line), BadCommand)

    def test_7_2_texts(self):
        for text in TEXTS + ["x " * 100, " x" * 100, "a  b", " a", "a ", "/", "seal /a", "''", '"']:
            self.assertEqual(parse_command("append /a " + text), ("append", "/a", text))
            self.assertEqual(parse_error("append a " + text), BadPath)

    def test_7_4_what_is_no_text(self):
        for text in NO_TEXTS + [" \x25 ", " \n", "a\tb", "x" * 200 + " ", " " * 201, "x " * 100 + "x"]:
            self.assertEqual(parse_error("append /a " + text), BadCommand)

    def test_7_2_each_character_of_a_text(self):
        for char in map(chr, range(32, 127)):
            wanted = BadCommand if char == "\x25" else None
            for text in (char, char + "x", "x" + char, char * 200):
                self.assertEqual(parse_error("append /a " + text), wanted)

    def test_7_3_each_character_of_a_number(self):
        for char in ALLOWED_CHARS + ["\t", "\n", "\x25"]:
            if char == " ":
                continue
            self.assertEqual(parse_error("limit / " + char), None if char.isdigit() else BadCommand)
            self.assertEqual(parse_error("limit / 1" + char), None if char.isdigit() else BadCommand)
            self.assertEqual(parse_error("limit / " + char + "1"), None if char in "123456789" else BadCommand)

    def test_7_3_counts_of_digits(self):
        for count in range(1, 30):
            for digits in ("1" * count, "9" * count, "1" + "0" * (count - 1)):
                if count <= 18:
                    self.assertEqual(parse_command("limit / " + digits), ("limit", "/", int(digits)))
                else:
                    self.assertEqual(parse_error("limit / " + digits), BadCommand)
            if count > 1:
                self.assertEqual(parse_error("limit / " + "0" * count), BadCommand)
                self.assertEqual(parse_error("limit / 0" + "1" * (count - 1)), BadCommand)
        self.assertEqual(parse_error("limit / " + "1" * 5000), BadCommand)

    def test_7_2_rows_of_words(self):
        """Every row of up to four of some words, against a count of the words."""
        counts = {"mkdir": 2, "create": 2, "seal": 2, "move": 3, "snapshot": 3, "limit": 3}
        for many in range(5):
            for words in itertools.product(("mkdir", "move", "limit", "append", "/a", "5", ""), repeat=many):
                line = " ".join(words)
                words = line.split(" ")
                with self.subTest(line=line):
                    self.assertEqual(parse_error(line), self.wanted(words, counts))

    def wanted(self, words, counts):
        name = words[0]
        if name == "append":
            if len(words) < 3:
                return BadCommand
            return None if words[1] == "/a" else BadPath
        if counts.get(name) != len(words) or (name == "limit" and words[2] != "5"):
            return BadCommand
        paths = words[1:2] if name == "limit" else words[1:]
        return None if all(path == "/a" for path in paths) else BadPath


class FormatTest(unittest.TestCase):
    def test_the_examples(self):
        self.assertEqual(format_command(("limit", "/", 120)), "limit / 120")
        self.assertEqual(format_error(("limit", "notes", -1)), BadCommand)

    def test_7_5_the_forms(self):
        for line, deed in PAIRS:
            with self.subTest(line=line):
                self.assertEqual(format_command(deed), line)

    def test_7_5_objects_of_every_other_kind(self):
        for thing in odd_things() + ["mkdir /a", "", 0, 5, FAR, (), ((),), (("mkdir", "/a"),), ["mkdir", "/a"]]:
            self.assertEqual(format_error(thing), BadCommand)
        for thing in odd_things() + [(), ("/a",), ["/a"]]:
            for deed in ((thing,), (thing, "/a"), ("mkdir", thing), ("create", thing), ("seal", thing),
                         ("append", thing, "x"), ("append", "/a", thing), ("move", thing, "/a"), ("move", "/a", thing),
                         ("snapshot", "/a", thing), ("limit", thing, 5), ("limit", "/a", thing)):
                self.assertEqual(format_error(deed), BadCommand)

    def test_7_5_other_forms(self):
        deeds = [
            ("mkdir",), ("create",), ("seal",), ("append",), ("move",), ("snapshot",), ("limit",), ("mkdir", "/a", "/b"),
            ("append", "/a"), ("append", "/a", "x", "y"), ("append", "/a", 5), ("move", "/a"), ("move", "/a", "/b", "/c"),
            ("limit", "/a"), ("limit", "/a", "5"), ("limit", "/a", 5, 6), ("limit", 5, "/a"), ("mkdir", 5), ("link", "/a"),
            ("", "/a"), ("mkdir ", "/a"), (5, "/a"), ("append", 5, "x"), ("snapshot", "/a", 0), ("limit", "/a", -1),
            ("limit", "/a", -MOST), ("limit", "/a", MOST + 1), ("limit", "/a", FAR), ("limit", "/a", True), ("limit", "/a", False),
            ("limit", True, 5), ("mkdir", "/a", None), ("mkdir", "/a\x25"), ("append", "/a", "x\n"),
            ("append", "/a", "x" * 201), ("mkdir", "x" * 201), ("limit", "/a", 5.0), ("mkdir", b"/a"),
        ]
        for deed in deeds:
            with self.subTest(deed=deed):
                self.assertEqual(format_error(deed), BadCommand)

    def test_7_5_more_than_18_digits(self):
        self.assertEqual(format_error(("limit", "/", MOST)), BadCommand)
        self.assertEqual(format_error(("limit", "a", MOST)), BadCommand)
        self.assertEqual(format_command(("limit", "/", MOST - 1)), "limit / 999999999999999999")

    def test_7_5_what_is_no_path(self):
        texts = [path for path in BAD_PATHS if len(path) <= 200 and not set(path) & set("\t\n\x25")]
        for path in texts + ["/a b", " ", "/a ", " /a"]:
            for deed in (("mkdir", path), ("create", path), ("seal", path), ("append", path, "x"), ("append", path, ""),
                         ("move", path, "/a"), ("move", "/a", path), ("snapshot", path, "/a"), ("snapshot", "/a", path),
                         ("limit", path, 0), ("limit", path, MOST - 1)):
                with self.subTest(deed=deed):
                    self.assertEqual(format_error(deed), BadPath)

    def test_7_5_bad_command_comes_first(self):
        for deed in (("mkdir", "a", "b"), ("limit", "a", -1), ("limit", "a", MOST), ("append", "a", "\n"), ("move", "a"),
                     ("link", "a"), ("move", "a", 5), ("snapshot", "a", None)):
            self.assertEqual(format_error(deed), BadCommand)

    def test_0_6_texts_that_look_like_more(self):
        self.assertEqual(format_command(("append", "/a", "x /b")), "append /a x /b")
        self.assertEqual(format_error(("mkdir", "/a /b")), BadPath)


class ThereAndBackTest(unittest.TestCase):
    def test_7_6_deeds_there_and_back(self):
        done = 0
        for seed in range(5):
            for deed in random_deeds(seed, 300):
                if format_error(deed) is None:
                    self.assertEqual(parse_command(format_command(deed)), deed)
                    done += 1
        for text in TEXTS:
            deed = ("append", "/a", text)
            self.assertEqual(parse_command(format_command(deed)), deed)
        self.assertGreater(done, 500)

    def test_7_6_lines_there_and_back(self):
        done = 0
        words = ["mkdir", "append", "move", "limit", "/", "/a", "x", "0", "10", ""]
        for many in range(1, 6):
            for row in itertools.product(words, repeat=many):
                line = " ".join(row)
                if parse_error(line) is None:
                    self.assertEqual(format_command(parse_command(line)), line)
                    done += 1
        self.assertGreater(done, 100)


if __name__ == "__main__":
    unittest.main()
