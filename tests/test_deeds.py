import itertools
import unittest

from appendhall.deeds import apply_deed, has_form, paths_of
from appendhall.images import tree_image
from appendhall.nodes import Directory, File
from appendhall.tree import Tree
from tests.model import WORDS, ModelTree, random_deeds
from tests.samples import BEYOND, INTEGERS, MOST, NO_TEXTS, TEXTS, odd_things

STAMP = (1000, 3, 40)


def state(tree):
    """All that can be seen of a tree by its own methods."""
    rows = []
    for number in range(len(tree)):
        node = tree.node(number)
        rows.append((number, tree.names_of(number), tree.above(number)))
        if isinstance(node, File):
            rows.append(("file", node.pieces, node.sealed, node.length))
        else:
            rows.append(("directory", node.limit, [(name, node.child(name)) for name in node.names()]))
    return rows


def grown(*deeds):
    """A tree to which deeds were applied, none of which was refused."""
    tree = Tree()
    for number, deed in enumerate(deeds, 1):
        answer = apply_deed(tree, (number, 0, number), deed)
        assert answer[0] != "refused", (deed, answer)
    return tree


# /d 1, /d/e 2, /d/e/f 3 (abcde), /g 4 (xyz), /s 5 (sealed, 12), /l 6 (limit 10), /l/m 7, /l/m/n 8 (wwww), /o 9
COMMON = (
    ("mkdir", "/d"), ("mkdir", "/d/e"), ("create", "/d/e/f"), ("create", "/g"), ("create", "/s"),
    ("mkdir", "/l"), ("mkdir", "/l/m"), ("create", "/l/m/n"), ("mkdir", "/o"),
    ("append", "/d/e/f", "abcde"), ("append", "/g", "xyz"), ("append", "/s", "12"), ("seal", "/s"),
    ("append", "/l/m/n", "wwww"), ("limit", "/l", 10),
)


def common():
    return grown(*COMMON)


def full():
    """The common tree, with empty directories /x0, /x1 .. up to 64 nodes."""
    return grown(*COMMON, *[("mkdir", f"/x{number}") for number in range(54)])


class DeedTest(unittest.TestCase):
    def check_refused(self, tree, deed, word):
        before = state(tree)
        image = tree_image(tree)
        with self.subTest(deed=deed):
            self.assertEqual(apply_deed(tree, STAMP, deed), ("refused", word))
            self.assertEqual(state(tree), before)
            self.assertEqual(tree_image(tree), image)

    def check_all_refused(self, make, deeds, word):
        for deed in deeds:
            self.check_refused(make(), deed, word)

    def check_done(self, tree, deed, answer):
        with self.subTest(deed=deed):
            found = apply_deed(tree, STAMP, deed)
            self.assertEqual(found, answer)
            self.assertIs(type(found), tuple)


class ExampleTest(DeedTest):
    def test_the_example(self):
        tree = Tree()
        self.assertEqual(apply_deed(tree, (1, 0, 1), ("create", "/notes")), ("made", 1))
        self.assertEqual(apply_deed(tree, (2, 0, 2), ("append", "/notes", "first")), ("written", 2, 1, 0))
        self.assertEqual(apply_deed(tree, (3, 0, 3), ("move", "/notes", "/notes/old")), ("refused", "within"))


class FormTest(DeedTest):
    def test_4_11_wrong_words(self):
        for word in ("rmdir", "Mkdir", "MKDIR", "mkdir ", " mkdir", "touch", "x", "deed", "path", "find", "content"):
            for rest in ((), ("/a",), ("/a", "/b"), ("/a", 5), ("/a", "/b", "/c"), (1,), ("",)):
                self.check_refused(common(), (word,) + rest, "deed")

    def test_4_11_too_few_items(self):
        for word in WORDS:
            self.check_refused(common(), (word,), "deed")
        for word in ("append", "move", "snapshot", "limit"):
            self.check_refused(common(), (word, "/g"), "deed")
            self.check_refused(common(), (word, "/d"), "deed")

    def test_4_11_too_many_items(self):
        for word in ("mkdir", "create", "seal"):
            self.check_all_refused(common, [(word, "/g", "/q"), (word, "/q", ""), (word, "/g", 1)], "deed")
        for word in WORDS:
            for extra in ("/q", "", 0, 7):
                self.check_refused(common(), (word, "/g", "/q", extra), "deed")
                self.check_refused(common(), (word, "/d", 50, extra), "deed")

    def test_4_11_an_integer_where_a_text_stands(self):
        for number in (0, 1, -1, MOST):
            for word in ("mkdir", "create", "seal"):
                self.check_refused(common(), (word, number), "deed")
            for word in ("append", "move", "snapshot"):
                self.check_refused(common(), (word, number, "/q"), "deed")
                self.check_refused(common(), (word, "/g", number), "deed")
                self.check_refused(common(), (word, number, number), "deed")
            self.check_refused(common(), ("limit", number, 5), "deed")

    def test_4_11_a_text_where_an_integer_stands(self):
        for text in ("", "5", "/d", "50", " "):
            self.check_refused(common(), ("limit", "/d", text), "deed")

    def test_4_10_a_limit_below_0(self):
        for most in (-1, -2, -MOST):
            self.check_refused(common(), ("limit", "/d", most), "deed")
            self.check_refused(common(), ("limit", "/o", most), "deed")
        self.check_done(common(), ("limit", "/o", 0), ("limited", 9, 0))

    def test_4_11_what_is_no_path(self):
        for path in ("", "a", "/a/", "//", "/A", "/a b", "/.", "/..", "/d/", "d", "/g/", "/a" * 7, "/" + "x" * 13):
            for word in ("mkdir", "create", "seal"):
                self.check_refused(common(), (word, path), "path")
            self.check_refused(common(), ("append", path, "text"), "path")
            self.check_refused(common(), ("limit", path, 5), "path")
            for word in ("move", "snapshot"):
                self.check_refused(common(), (word, path, "/q"), "path")
                self.check_refused(common(), (word, "/g", path), "path")
                self.check_refused(common(), (word, path, path), "path")

    def test_4_11_the_text_of_append_is_no_path(self):
        self.check_done(common(), ("append", "/g", "//no path"), ("written", 1000, 4, 3))

    def test_4_11_deed_comes_before_path(self):
        deeds = [
            ("mkdir", "bad", "bad"), ("create", "bad", 1), ("append", "bad"), ("append", "bad", 1), ("seal", "", ""),
            ("move", "bad"), ("move", "bad", 7), ("snapshot", "bad", 7), ("limit", "bad", -1), ("limit", "bad", "bad"),
            ("no", "bad"),
        ]
        self.check_all_refused(common, deeds, "deed")

    def test_4_11_deed_comes_before_all_others(self):
        deeds = [
            ("mkdir", "/", ""), ("mkdir", "/d", ""), ("create", "/g/x", 0), ("append", "/d", "", ""),
            ("append", "/s", 0), ("seal", "/s", 0), ("seal", "/nope", ""), ("move", "/", 0), ("move", "/d", "/d", 0),
            ("move", "/nope", 1), ("snapshot", "/d", 1), ("snapshot", "/nope", 1), ("limit", "/g", -1),
            ("limit", "/nope", -1), ("limit", "/", -1), ("limit", "/l", -1),
        ]
        self.check_all_refused(common, deeds, "deed")
        self.check_all_refused(full, deeds + [("mkdir", "/new", 1), ("snapshot", "/g", 1)], "deed")

    def test_4_11_path_comes_before_all_others(self):
        deeds = [
            ("move", "/", "bad"), ("move", "/nope", "bad"), ("move", "/g/x", "bad"), ("move", "/d", "/d/"),
            ("move", "/d", "/" + "a/" * 6 + "a"), ("snapshot", "/nope", "bad"), ("snapshot", "/d", "bad"),
            ("snapshot", "/g/x", ""), ("append", "bad", ""), ("append", "/d/", ""), ("limit", "/g/", 0),
        ]
        self.check_all_refused(common, deeds, "path")
        self.check_all_refused(full, deeds + [("mkdir", "new"), ("create", "/new/"), ("snapshot", "/g", "x")], "path")


class HasFormTest(unittest.TestCase):
    DEEDS = [("mkdir", "/a"), ("create", "/a"), ("append", "/a", "b"), ("seal", "/a"), ("move", "/a", "/b"),
             ("snapshot", "/a", "/b"), ("limit", "/a", 5)]

    def test_4_10_the_seven_forms(self):
        for deed in self.DEEDS + [("mkdir", "no path"), ("append", "", ""), ("limit", "", 0), ("limit", "/", MOST)]:
            self.assertIs(has_form(deed), True)

    def test_4_10_any_object(self):
        for thing in odd_things() + INTEGERS + BEYOND + TEXTS + NO_TEXTS + ["mkdir", (), [], ("mkdir",), ("",)]:
            self.assertIs(has_form(thing), False)
        for deed in self.DEEDS:
            self.assertIs(has_form(list(deed)), False)
            self.assertIs(has_form(deed[:-1]), False)
            for thing in odd_things() + BEYOND + NO_TEXTS + [("/a",), -1]:
                self.assertIs(has_form(deed[:-1] + (thing,)), False)
                self.assertIs(has_form((thing,) + deed[1:]), False)
                self.assertIs(has_form(deed + (thing,)), False)

    def test_4_11_the_items_that_must_be_paths(self):
        found = [paths_of(deed) for deed in self.DEEDS]
        self.assertEqual(found, [["/a"], ["/a"], ["/a"], ["/a"], ["/a", "/b"], ["/a", "/b"], ["/a"]])


class PlaceTest(DeedTest):
    """The checks of point 4.12, for all deeds that make or move a node."""

    def deeds_to(self, path):
        return [("mkdir", path), ("create", path), ("move", "/s", path), ("snapshot", "/g", path)]

    def test_4_12_the_root(self):
        self.check_all_refused(common, self.deeds_to("/"), "exists")

    def test_4_12_the_directory_is_missing(self):
        for path in ("/nope/a", "/d/nope/a", "/nope/d/e/f", "/d/e/nope/x/y/z"):
            self.check_all_refused(common, self.deeds_to(path), "missing")

    def test_4_12_through_a_file(self):
        for path in ("/g/a/b", "/d/e/f/a/b", "/g/g/g/g/g/g", "/g/nope/x"):
            self.check_all_refused(common, self.deeds_to(path), "kind")

    def test_4_12_in_a_file(self):
        for path in ("/g/a", "/d/e/f/a", "/g/g"):
            self.check_all_refused(common, self.deeds_to(path), "kind")

    def test_4_12_the_name_is_taken(self):
        for path in ("/d", "/d/e", "/d/e/f", "/g", "/l/m/n"):
            self.check_all_refused(common, self.deeds_to(path), "exists")

    def test_4_12_places_in_several_directories(self):
        for path in ("/new", "/d/new", "/d/e/new", "/o/g", "/l/m/g", "/d/d", "/e"):
            for deed in self.deeds_to(path):
                tree = common()
                self.check_done(tree, deed, ("moved", 5) if deed[0] == "move" else ("made", 10))
                self.assertEqual(tree.look_up(path[1:].split("/")), 5 if deed[0] == "move" else 10)


class MakeTest(DeedTest):
    def test_4_13_mkdir(self):
        tree = Tree()
        self.check_done(tree, ("mkdir", "/a"), ("made", 1))
        self.check_done(tree, ("mkdir", "/a/b"), ("made", 2))
        self.check_done(tree, ("mkdir", "/b"), ("made", 3))
        for number in (1, 2, 3):
            self.assertIs(type(tree.node(number)), Directory)
            self.assertIsNone(tree.node(number).limit)
        self.assertEqual([tree.names_of(number) for number in (1, 2, 3)], [["a"], ["a", "b"], ["b"]])
        self.assertEqual((tree.node(2).names(), tree.node(3).names()), ([], []))

    def test_4_13_create(self):
        tree = grown(("mkdir", "/a"))
        self.check_done(tree, ("create", "/a/b"), ("made", 2))
        self.check_done(tree, ("create", "/b"), ("made", 3))
        for number in (2, 3):
            node = tree.node(number)
            self.assertIs(type(node), File)
            self.assertEqual((node.pieces, node.sealed, node.length), ((), False, 0))
        self.assertIsNot(tree.node(2), tree.node(3))

    def test_4_2_paths_of_six_names(self):
        tree = grown(*[("mkdir", "/a" * count) for count in range(1, 6)])
        self.check_done(tree, ("create", "/a/a/a/a/a/b"), ("made", 6))
        self.check_done(tree, ("mkdir", "/a/a/a/a/a/a"), ("made", 7))
        self.check_refused(tree, ("mkdir", "/a" * 7), "path")
        self.check_refused(tree, ("create", "/a" * 7), "path")

    def test_4_13_63_and_64_nodes(self):
        for word in ("mkdir", "create"):
            tree = grown(*[("create", f"/f{number}") for number in range(62)])
            self.assertEqual(len(tree), 63)
            self.check_done(tree, (word, "/last"), ("made", 63))
            self.assertEqual(len(tree), 64)
            self.check_refused(tree, (word, "/one-more"), "full")
            self.check_refused(tree, ("mkdir", "/one-more"), "full")
            self.check_refused(tree, ("create", "/one-more"), "full")

    def test_4_13_the_place_comes_before_full(self):
        self.assertEqual(len(full()), 64)
        for word in ("mkdir", "create"):
            self.check_refused(full(), (word, "/"), "exists")
            self.check_refused(full(), (word, "/nope/a"), "missing")
            self.check_refused(full(), (word, "/g/a/b"), "kind")
            self.check_refused(full(), (word, "/g/a"), "kind")
            self.check_refused(full(), (word, "/d"), "exists")
            self.check_refused(full(), (word, "/d/e/f"), "exists")
            self.check_refused(full(), (word, "/d/new"), "full")

    def test_4_13_limits_do_not_matter(self):
        tree = grown(("limit", "/", 0))
        self.check_done(tree, ("mkdir", "/a"), ("made", 1))
        self.check_done(tree, ("create", "/a/b"), ("made", 2))

    def test_4_13_a_refused_deed_uses_no_number(self):
        tree = grown(("mkdir", "/a"))
        self.check_refused(tree, ("mkdir", "/a"), "exists")
        self.check_refused(tree, ("create", "/b/c"), "missing")
        self.check_done(tree, ("create", "/b"), ("made", 2))


class AppendTest(DeedTest):
    def test_4_14_pieces_and_offsets(self):
        tree = grown(("mkdir", "/a"), ("create", "/a/f"), ("create", "/g"))
        rows = [((7, 2, 1), "/a/f", "first", 0), ((9, 0, 5), "/g", " ", 0), ((10, 2, 2), "/a/f", "x" * 200, 5),
                ((11, 1, 1), "/a/f", "y", 205), ((MOST, MOST, MOST), "/g", "/a/f", 1)]
        for stamp, path, text, offset in rows:
            node = 2 if path == "/a/f" else 3
            answer = apply_deed(tree, stamp, ("append", path, text))
            self.assertEqual(answer, ("written", stamp[0], node, offset))
        pieces = ((7, 2, 1, "first"), (10, 2, 2, "x" * 200), (11, 1, 1, "y"))
        self.assertEqual((tree.node(2).pieces, tree.node(2).length), (pieces, 206))
        self.assertEqual(tree.node(3).pieces, ((9, 0, 5, " "), (MOST, MOST, MOST, "/a/f")))
        self.assertEqual(tree.size_of(0), 211)

    def test_4_14_look_ups(self):
        for path in ("/nope", "/d/nope", "/nope/a", "/d/e/nope/x"):
            self.check_refused(common(), ("append", path, "x"), "missing")
        for path in ("/g/a", "/d/e/f/a/b", "/s/s"):
            self.check_refused(common(), ("append", path, "x"), "kind")

    def test_4_14_to_a_directory(self):
        for path in ("/", "/d", "/d/e", "/l", "/o"):
            self.check_refused(common(), ("append", path, "x"), "kind")

    def test_4_14_to_a_sealed_file(self):
        self.check_refused(common(), ("append", "/s", "x"), "sealed")

    def test_4_14_the_empty_text(self):
        for path in ("/g", "/d/e/f", "/l/m/n"):
            self.check_refused(common(), ("append", path, ""), "empty")
        self.check_done(common(), ("append", "/g", " "), ("written", 1000, 4, 3))

    def test_4_14_the_order_of_the_checks(self):
        for text in ("", "x" * 7, "x" * 200):
            self.check_refused(common(), ("append", "/l/nope", text), "missing")
            self.check_refused(common(), ("append", "/l/m/n/x", text), "kind")
            self.check_refused(common(), ("append", "/l/m", text), "kind")
            self.check_refused(common(), ("append", "/l", text), "kind")
            self.check_refused(common(), ("append", "/", text), "kind")
            self.check_refused(common(), ("append", "/s", text), "sealed")
            tree = common()
            apply_deed(tree, STAMP, ("seal", "/l/m/n"))
            self.check_refused(tree, ("append", "/l/m/n", text), "sealed")
        tree = grown(*COMMON, ("limit", "/l/m", 4))
        self.check_refused(tree, ("append", "/l/m/n", ""), "empty")
        self.check_refused(tree, ("append", "/l/m/n", "x"), "limit")
        # No deed leads to a directory above its limit, but a tree that was put together may be.
        tree.node(7).set_limit(3)
        self.check_refused(tree, ("append", "/l/m/n", ""), "empty")

    def test_4_14_limits_of_each_directory_above(self):
        for count in range(1, 6):
            for at in range(0, count + 1):
                self.check_limit_above(count, at)

    def check_limit_above(self, count, at):
        """A file below so many directories, of which the one at a level has a limit."""
        deeds = [("mkdir", "/a" * level) for level in range(1, count + 1)]
        path = "/a" * count + "/f"
        limited = "/a" * at or "/"
        file = count + 1
        tree = grown(*deeds, ("create", path), ("append", path, "abc"), ("limit", limited, 8))
        self.check_refused(tree, ("append", path, "123456"), "limit")
        self.check_done(tree, ("append", path, "12345"), ("written", 1000, file, 3))
        self.check_refused(tree, ("append", path, "1"), "limit")
        self.check_done(tree, ("limit", limited, 9), ("limited", at, 8))
        self.check_done(tree, ("append", path, "1"), ("written", 1000, file, 8))

    def test_4_14_all_files_below_count(self):
        tree = grown(("mkdir", "/a"), ("mkdir", "/a/b"), ("create", "/a/f"), ("create", "/a/b/g"), ("create", "/h"),
                     ("append", "/a/f", "12"), ("append", "/a/b/g", "345"), ("limit", "/a", 6))
        self.check_refused(tree, ("append", "/a/b/g", "xy"), "limit")
        self.check_refused(tree, ("append", "/a/f", "xy"), "limit")
        self.check_done(tree, ("append", "/h", "not below /a"), ("written", 1000, 5, 0))
        self.check_done(tree, ("append", "/a/f", "x"), ("written", 1000, 3, 2))
        self.check_refused(tree, ("append", "/a/b/g", "y"), "limit")

    def test_4_14_a_limit_of_0(self):
        tree = grown(("create", "/f"), ("limit", "/", 0))
        self.check_refused(tree, ("append", "/f", "x"), "limit")
        self.check_refused(tree, ("append", "/f", ""), "empty")

    def test_4_14_limits_elsewhere_do_not_matter(self):
        tree = grown(("mkdir", "/a"), ("mkdir", "/a/b"), ("mkdir", "/c"), ("create", "/a/f"), ("limit", "/a/b", 0),
                     ("limit", "/c", 0))
        self.check_done(tree, ("append", "/a/f", "x" * 200), ("written", 1000, 4, 0))

    def test_4_14_the_limit_after_a_move(self):
        tree = grown(("mkdir", "/a"), ("mkdir", "/b"), ("create", "/a/f"), ("limit", "/a", 2), ("limit", "/b", 5),
                     ("append", "/a/f", "12"), ("move", "/a/f", "/b/f"))
        self.check_refused(tree, ("append", "/b/f", "1234"), "limit")
        self.check_done(tree, ("append", "/b/f", "123"), ("written", 1000, 3, 2))


class SealTest(DeedTest):
    def test_4_15_sealing(self):
        tree = common()
        self.check_done(tree, ("seal", "/d/e/f"), ("sealed", 3, 5))
        self.assertIs(tree.node(3).sealed, True)
        self.assertEqual(tree.node(3).pieces, ((10, 0, 10, "abcde"),))
        self.assertIs(tree.node(4).sealed, False)
        self.check_done(tree, ("create", "/new"), ("made", 10))
        self.check_done(tree, ("seal", "/new"), ("sealed", 10, 0))

    def test_4_15_refusals(self):
        self.check_refused(common(), ("seal", "/nope"), "missing")
        self.check_refused(common(), ("seal", "/nope/s"), "missing")
        self.check_refused(common(), ("seal", "/s/s"), "kind")
        self.check_refused(common(), ("seal", "/g/x"), "kind")
        for path in ("/", "/d", "/l/m"):
            self.check_refused(common(), ("seal", path), "kind")
        self.check_refused(common(), ("seal", "/s"), "sealed")

    def test_4_15_a_sealed_file_stays_sealed(self):
        tree = common()
        self.check_done(tree, ("seal", "/g"), ("sealed", 4, 3))
        self.check_done(tree, ("move", "/g", "/o/g"), ("moved", 4))
        self.check_done(tree, ("snapshot", "/o/g", "/copy"), ("made", 10))
        for path in ("/o/g", "/copy"):
            self.check_refused(tree, ("seal", path), "sealed")
            self.check_refused(tree, ("append", path, "x"), "sealed")
            self.check_refused(tree, ("append", path, ""), "sealed")


class MoveTest(DeedTest):
    def test_4_16_files_directories_and_sealed_files(self):
        for path, node in (("/d", 1), ("/d/e", 2), ("/d/e/f", 3), ("/g", 4), ("/s", 5), ("/l/m", 7)):
            for new in ("/new", "/o/new", "/o/d"):
                tree = common()
                sizes = [tree.size_of(number) for number in range(10)]
                held = tree.node(node)
                self.check_done(tree, ("move", path, new), ("moved", node))
                self.assertEqual(tree.look_up(new[1:].split("/")), node)
                self.assertEqual(tree.look_up(path[1:].split("/")), "missing")
                self.assertIs(tree.node(node), held)
                self.assertEqual((len(tree), tree.size_of(node)), (10, sizes[node]))

    def test_4_16_all_that_is_below_gets_another_path(self):
        tree = common()
        self.check_done(tree, ("move", "/d", "/o/dd"), ("moved", 1))
        self.assertEqual((tree.names_of(3), tree.names_of(2)), (["o", "dd", "e", "f"], ["o", "dd", "e"]))
        self.check_done(tree, ("append", "/o/dd/e/f", "x"), ("written", 1000, 3, 5))
        self.check_refused(tree, ("append", "/d/e/f", "x"), "missing")
        self.assertEqual(tree.node(0).names(), ["g", "l", "o", "s"])

    def test_4_16_within_one_directory(self):
        tree = common()
        self.check_done(tree, ("move", "/d/e/f", "/d/e/x"), ("moved", 3))
        self.check_done(tree, ("move", "/d/e", "/d/y"), ("moved", 2))
        self.assertEqual(tree.names_of(3), ["d", "y", "x"])

    def test_4_16_up(self):
        tree = common()
        self.check_done(tree, ("move", "/d/e/f", "/f"), ("moved", 3))
        self.check_done(tree, ("move", "/d/e", "/e"), ("moved", 2))
        self.assertEqual((tree.names_of(3), tree.names_of(2), tree.node(1).names()), (["f"], ["e"], []))

    def test_4_16_the_root(self):
        for new in ("/", "/new", "/d", "/nope/x", "/g/x"):
            self.check_refused(common(), ("move", "/", new), "root")
            self.check_refused(full(), ("move", "/", new), "root")
        self.check_refused(Tree(), ("move", "/", "/"), "root")

    def test_4_16_look_ups_come_before_the_rest(self):
        for path, word in (("/nope", "missing"), ("/d/nope/x", "missing"), ("/g/x", "kind"), ("/s/x/y", "kind")):
            for new in ("/", path, path + "/x", "/d", "/nope/x/y", "/g/y", "/new", "/l/new"):
                self.check_refused(common(), ("move", path, new), word)

    def test_4_16_within_itself(self):
        for path in ("/d", "/d/e", "/g", "/d/e/f", "/s", "/l", "/l/m"):
            for end in ("", "/new", "/e", "/x/y", "/f", "/a/b/c"):
                self.check_refused(common(), ("move", path, path + end), "within")

    def test_4_16_within_comes_before_the_place(self):
        self.check_refused(common(), ("move", "/d", "/d"), "within")        # exists
        self.check_refused(common(), ("move", "/d", "/d/e"), "within")      # exists
        self.check_refused(common(), ("move", "/d", "/d/nope/x"), "within")  # missing
        self.check_refused(common(), ("move", "/d", "/d/e/f/x"), "within")  # kind
        self.check_refused(common(), ("move", "/g", "/g/x"), "within")      # kind

    def test_4_16_within_comes_before_deep_and_limit(self):
        tree = grown(("mkdir", "/a"), ("mkdir", "/a/a"), ("mkdir", "/a/a/a"), ("mkdir", "/a/b"), ("create", "/a/a/f"),
                     ("append", "/a/a/f", "12345"), ("limit", "/a/b", 3), ("limit", "/a", 5))
        self.check_refused(tree, ("move", "/a", "/a/b/x/x/x/x"), "within")
        self.check_refused(tree, ("move", "/a", "/a/b/x"), "within")

    def test_4_16_a_name_that_begins_alike_is_not_within(self):
        tree = grown(("mkdir", "/a"), ("mkdir", "/ab"))
        self.check_done(tree, ("move", "/a", "/ab/a"), ("moved", 1))
        self.check_done(tree, ("move", "/ab/a", "/ab/ab"), ("moved", 1))

    def test_4_16_into_what_is_above(self):
        self.check_refused(common(), ("move", "/d/e", "/d"), "exists")
        self.check_refused(common(), ("move", "/d/e/f", "/d"), "exists")
        self.check_refused(common(), ("move", "/d/e", "/"), "exists")

    def deep_tree(self, height):
        """/t with a row of so many directories below it, and /a/a/a/a/a."""
        deeds = [("mkdir", "/t" * count) for count in range(1, height + 2)]
        return grown(*deeds, *[("mkdir", "/a" * count) for count in range(1, 6)])

    def test_4_16_six_names_and_seven(self):
        for height in range(0, 6):
            for count in range(1, 7):
                tree = self.deep_tree(height)
                deed = ("move", "/t", "/a" * (count - 1) + "/x")
                if count + height <= 6:
                    self.check_done(tree, deed, ("moved", 1))
                    self.assertEqual(len(tree.names_of(height + 1)), count + height)
                else:
                    self.check_refused(tree, deed, "deep")

    def test_4_16_deep_by_a_file_that_is_not_the_first(self):
        tree = grown(("mkdir", "/t"), ("create", "/t/a"), ("mkdir", "/t/m"), ("create", "/t/m/f"), ("create", "/t/z"),
                     ("mkdir", "/a"), ("mkdir", "/a/a"), ("mkdir", "/a/a/a"), ("mkdir", "/a/a/a/a"))
        self.check_refused(tree, ("move", "/t", "/a/a/a/a/t"), "deep")
        self.check_done(tree, ("move", "/t", "/a/a/a/t"), ("moved", 1))

    def test_4_16_the_place_comes_before_deep(self):
        tree = self.deep_tree(5)
        self.check_done(tree, ("create", "/a/f"), ("made", 12))
        self.check_refused(tree, ("move", "/t", "/a/a"), "exists")
        self.check_refused(tree, ("move", "/t", "/a/nope/x"), "missing")
        self.check_refused(tree, ("move", "/t", "/a/f/x"), "kind")
        self.check_refused(tree, ("move", "/t", "/a/f/x/y"), "kind")
        self.check_refused(tree, ("move", "/t", "/a/x"), "deep")

    def test_4_16_deep_comes_before_the_limit(self):
        tree = self.deep_tree(5)
        for deed in (("create", "/t/f"), ("append", "/t/f", "12345"), ("limit", "/a", 4)):
            apply_deed(tree, STAMP, deed)
        self.check_refused(tree, ("move", "/t", "/a/t"), "deep")
        self.check_refused(tree, ("move", "/t/f", "/a/f"), "limit")

    def test_4_16_the_place_comes_before_the_limit(self):
        tree = grown(*COMMON, ("limit", "/l", 4), ("limit", "/l/m", 4))
        self.check_refused(tree, ("move", "/d", "/l/m"), "exists")
        self.check_refused(tree, ("move", "/d", "/l/nope/x"), "missing")
        self.check_refused(tree, ("move", "/d", "/l/m/n/x"), "kind")
        self.check_refused(tree, ("move", "/d", "/l/new"), "limit")

    def test_4_16_limits_met_and_exceeded(self):
        # /l has 4 of 10 characters; /d has 5, and 6 or 7 behind an append.
        tree = common()
        self.check_done(tree, ("append", "/d/e/f", "67"), ("written", 1000, 3, 5))
        for path in ("/d", "/d/e", "/d/e/f"):
            self.check_refused(tree, ("move", path, "/l/new"), "limit")
            self.check_refused(tree, ("move", path, "/l/m/new"), "limit")
        for path, node in (("/d", 1), ("/d/e", 2), ("/d/e/f", 3)):
            for new in ("/l/new", "/l/m/new"):
                tree = common()
                self.check_done(tree, ("append", "/d/e/f", "6"), ("written", 1000, 3, 5))
                self.check_done(tree, ("move", path, new), ("moved", node))
                self.assertEqual(tree.size_of(6), 10)

    def test_4_16_the_limit_of_the_parent_alone_and_of_one_farther_above(self):
        for limited in ("/a", "/a/a", "/a/a/a"):
            for most in (6, 7, 8):
                tree = grown(("mkdir", "/a"), ("mkdir", "/a/a"), ("mkdir", "/a/a/a"), ("create", "/a/a/a/f"),
                             ("append", "/a/a/a/f", "123"), ("create", "/g"), ("append", "/g", "4567"),
                             ("limit", limited, most))
                if most < 7:
                    self.check_refused(tree, ("move", "/g", "/a/a/a/g"), "limit")
                else:
                    self.check_done(tree, ("move", "/g", "/a/a/a/g"), ("moved", 5))

    def test_4_16_directories_that_stay_above_do_not_count(self):
        tree = grown(("mkdir", "/a"), ("mkdir", "/a/b"), ("mkdir", "/a/c"), ("create", "/a/b/f"),
                     ("append", "/a/b/f", "12345"), ("limit", "/a", 5), ("limit", "/", 5), ("limit", "/a/b", 5))
        self.check_done(tree, ("move", "/a/b/f", "/a/b/g"), ("moved", 4))
        self.check_done(tree, ("move", "/a/b/g", "/a/c/g"), ("moved", 4))
        self.check_done(tree, ("move", "/a/c/g", "/a/g"), ("moved", 4))
        self.check_done(tree, ("move", "/a/g", "/g"), ("moved", 4))
        self.check_done(tree, ("move", "/g", "/a/b/g"), ("moved", 4))
        self.check_done(tree, ("move", "/a/b", "/b"), ("moved", 2))
        self.check_done(tree, ("move", "/b", "/a/c/b"), ("moved", 2))

    def test_4_16_a_directory_that_is_entered_beside_one_that_stays(self):
        for most in (4, 5):
            tree = grown(("mkdir", "/a"), ("mkdir", "/a/b"), ("mkdir", "/a/c"), ("create", "/a/b/f"),
                         ("append", "/a/b/f", "12345"), ("limit", "/a", 5), ("limit", "/a/c", most))
            if most == 4:
                self.check_refused(tree, ("move", "/a/b/f", "/a/c/f"), "limit")
                self.check_refused(tree, ("move", "/a/b", "/a/c/b"), "limit")
            else:
                self.check_done(tree, ("move", "/a/b", "/a/c/b"), ("moved", 2))

    def test_4_16_limits_move_along(self):
        tree = grown(("mkdir", "/a"), ("create", "/a/f"), ("limit", "/a", 3), ("mkdir", "/b"), ("move", "/a", "/b/a"))
        self.check_refused(tree, ("append", "/b/a/f", "1234"), "limit")
        self.check_done(tree, ("append", "/b/a/f", "123"), ("written", 1000, 2, 0))

    def test_4_16_a_full_tree_can_be_moved_about(self):
        self.check_done(full(), ("move", "/d", "/o/d"), ("moved", 1))

    def test_4_16_nothing_of_size_0_is_too_much(self):
        tree = grown(("mkdir", "/a"), ("limit", "/a", 0), ("mkdir", "/b"), ("create", "/f"))
        self.check_done(tree, ("move", "/b", "/a/b"), ("moved", 2))
        self.check_done(tree, ("move", "/f", "/a/b/f"), ("moved", 3))


class SnapshotTest(DeedTest):
    def test_4_17_a_sealed_copy(self):
        tree = common()
        self.check_done(tree, ("append", "/g", "more"), ("written", 1000, 4, 3))
        self.check_done(tree, ("snapshot", "/g", "/o/copy"), ("made", 10))
        copy = tree.node(10)
        self.assertIs(type(copy), File)
        self.assertEqual(copy.pieces, ((11, 0, 11, "xyz"), (1000, 3, 40, "more")))
        self.assertEqual((copy.sealed, copy.length, tree.names_of(10)), (True, 7, ["o", "copy"]))
        self.assertEqual((tree.node(4).pieces, tree.node(4).sealed), (copy.pieces, False))
        self.assertEqual(tree.size_of(0), 5 + 7 + 2 + 4 + 7)

    def test_4_17_later_appends(self):
        tree = common()
        self.check_done(tree, ("snapshot", "/g", "/copy"), ("made", 10))
        self.check_done(tree, ("append", "/g", "later"), ("written", 1000, 4, 3))
        self.assertEqual((tree.node(10).pieces, tree.node(10).length), (((11, 0, 11, "xyz"),), 3))
        self.check_refused(tree, ("append", "/copy", "x"), "sealed")
        self.check_done(tree, ("snapshot", "/g", "/again"), ("made", 11))
        self.assertEqual(tree.node(11).pieces, tree.node(4).pieces)

    def test_4_17_of_sealed_and_empty_files(self):
        tree = common()
        self.check_done(tree, ("snapshot", "/s", "/copy"), ("made", 10))
        self.assertEqual((tree.node(10).pieces, tree.node(10).sealed), (tree.node(5).pieces, True))
        self.check_done(tree, ("create", "/empty"), ("made", 11))
        self.check_done(tree, ("snapshot", "/empty", "/copy2"), ("made", 12))
        self.assertEqual((tree.node(12).pieces, tree.node(12).sealed, tree.node(11).sealed), ((), True, False))
        self.check_done(tree, ("snapshot", "/copy", "/copy3"), ("made", 13))

    def test_4_17_look_ups(self):
        for path, word in (("/nope", "missing"), ("/nope/x", "missing"), ("/g/x", "kind"), ("/s/x/y", "kind")):
            for new in ("/", path, "/d", "/nope/x/y", "/g/y", "/new", "/l/new"):
                self.check_refused(common(), ("snapshot", path, new), word)
                self.check_refused(full(), ("snapshot", path, new), word)

    def test_4_17_of_a_directory(self):
        for path in ("/", "/d", "/l/m", "/o"):
            for new in ("/", path, "/d", "/nope/x", "/g/y", "/new", "/d/new", "/l/new"):
                self.check_refused(common(), ("snapshot", path, new), "kind")
                self.check_refused(full(), ("snapshot", path, new), "kind")

    def test_4_17_kind_comes_before_the_limit(self):
        tree = grown(*COMMON, ("limit", "/l", 4))
        self.check_refused(tree, ("snapshot", "/d", "/l/new"), "kind")
        self.check_refused(tree, ("snapshot", "/g", "/l/new"), "limit")

    def test_4_17_onto_itself_and_into_itself(self):
        self.check_refused(common(), ("snapshot", "/g", "/g"), "exists")
        self.check_refused(common(), ("snapshot", "/g", "/g/x"), "kind")

    def test_4_17_63_and_64_nodes(self):
        tree = grown(*COMMON, *[("mkdir", f"/x{number}") for number in range(53)])
        self.assertEqual(len(tree), 63)
        self.check_done(tree, ("snapshot", "/g", "/copy"), ("made", 63))
        self.check_refused(tree, ("snapshot", "/g", "/copy2"), "full")

    def test_4_17_the_place_comes_before_full(self):
        self.check_refused(full(), ("snapshot", "/g", "/"), "exists")
        self.check_refused(full(), ("snapshot", "/g", "/d"), "exists")
        self.check_refused(full(), ("snapshot", "/g", "/g/x"), "kind")
        self.check_refused(full(), ("snapshot", "/g", "/g/x/y"), "kind")
        self.check_refused(full(), ("snapshot", "/g", "/nope/x"), "missing")

    def test_4_17_the_place_and_full_come_before_the_limit(self):
        for make in (common, full):
            tree = make()
            self.check_done(tree, ("limit", "/l", 4), ("limited", 6, 4))
            self.check_refused(tree, ("snapshot", "/g", "/l/m"), "exists")
            self.check_refused(tree, ("snapshot", "/g", "/l/nope/x"), "missing")
            self.check_refused(tree, ("snapshot", "/g", "/l/m/n/x"), "kind")
            self.check_refused(tree, ("snapshot", "/g", "/l/new"), "limit" if make == common else "full")

    def test_4_17_limits_met_and_exceeded(self):
        for limited in ("/", "/a", "/a/a", "/a/a/a"):
            for more in (-1, 0, 1):
                tree = grown(("mkdir", "/a"), ("mkdir", "/a/a"), ("mkdir", "/a/a/a"), ("create", "/a/a/a/f"),
                             ("append", "/a/a/a/f", "123"), ("limit", limited, 6 + more))
                if more < 0:
                    self.check_refused(tree, ("snapshot", "/a/a/a/f", "/a/a/a/g"), "limit")
                else:
                    self.check_done(tree, ("snapshot", "/a/a/a/f", "/a/a/a/g"), ("made", 5))

    def test_4_17_directories_that_are_above_the_file_already_count_too(self):
        tree = grown(("mkdir", "/a"), ("mkdir", "/b"), ("create", "/a/f"), ("append", "/a/f", "123"), ("limit", "/", 5))
        self.check_refused(tree, ("snapshot", "/a/f", "/b/g"), "limit")
        self.check_refused(tree, ("snapshot", "/a/f", "/g"), "limit")
        self.check_done(tree, ("limit", "/", 6), ("limited", 0, 3))
        self.check_done(tree, ("limit", "/a", 3), ("limited", 1, 3))
        self.check_refused(tree, ("snapshot", "/a/f", "/a/g"), "limit")
        self.check_done(tree, ("snapshot", "/a/f", "/b/g"), ("made", 4))
        self.check_refused(tree, ("snapshot", "/a/f", "/b/h"), "limit")


class LimitTest(DeedTest):
    def test_4_18_setting(self):
        tree = common()
        self.check_done(tree, ("limit", "/d", 5), ("limited", 1, 5))
        self.check_done(tree, ("limit", "/d/e", 200), ("limited", 2, 5))
        self.check_done(tree, ("limit", "/o", 0), ("limited", 9, 0))
        self.check_done(tree, ("limit", "/", MOST), ("limited", 0, 14))
        self.assertEqual([tree.node(number).limit for number in (0, 1, 2, 6, 7, 9)], [MOST, 5, 200, 10, None, 0])

    def test_4_18_in_the_place_of_an_earlier_one(self):
        tree = common()
        for most in (4, 100, 10, 5):
            self.check_done(tree, ("limit", "/l", most), ("limited", 6, 4))
            self.assertEqual(tree.node(6).limit, most)
        self.check_refused(tree, ("append", "/l/m/n", "12"), "limit")
        self.check_done(tree, ("append", "/l/m/n", "1"), ("written", 1000, 8, 4))

    def test_4_18_refusals(self):
        self.check_refused(common(), ("limit", "/nope", 5), "missing")
        self.check_refused(common(), ("limit", "/nope/x", 0), "missing")
        self.check_refused(common(), ("limit", "/g/x", 5), "kind")
        for most in (0, 2, 3, 100):
            self.check_refused(common(), ("limit", "/g", most), "kind")
            self.check_refused(common(), ("limit", "/s", most), "kind")
            self.check_refused(common(), ("limit", "/s/x", most), "kind")

    def test_4_18_the_size_itself_and_one_less(self):
        for path, node, size in (("/", 0, 14), ("/d", 1, 5), ("/d/e", 2, 5), ("/l/m", 7, 4)):
            tree = common()
            self.check_refused(tree, ("limit", path, size - 1), "limit")
            self.check_refused(tree, ("limit", path, 0), "limit")
            self.check_done(tree, ("limit", path, size), ("limited", node, size))
            self.check_refused(tree, ("limit", path, size - 1), "limit")
            self.assertEqual(tree.node(node).limit, size)

    def test_4_18_a_limit_above_that_of_the_parent(self):
        tree = common()
        self.check_done(tree, ("limit", "/l/m", 50), ("limited", 7, 4))
        self.check_refused(tree, ("append", "/l/m/n", "1234567"), "limit")


class RowsOfDeedsTest(DeedTest):
    """Long rows of deeds, compared with the second account of the document in model.py."""

    def test_4_10_to_4_18_rows(self):
        met = set()
        for seed in range(40):
            tree = Tree()
            model = ModelTree()
            for number, deed in enumerate(random_deeds(seed, 400), 1):
                stamp = (number, seed, number * 2)
                before = (state(tree), tree_image(tree))
                answer = apply_deed(tree, stamp, deed)
                self.assertEqual(answer, model.apply(stamp, deed), (seed, number, deed))
                met.add((deed[0], answer[1] if answer[0] == "refused" else answer[0]))
                if answer[0] == "refused":
                    self.assertEqual((state(tree), tree_image(tree)), before)
            self.check_state(tree, model)
        self.check_met(met)

    def check_state(self, tree, model):
        self.assertEqual(len(tree), len(model.paths))
        for number, names in model.paths.items():
            self.assertEqual(tuple(tree.names_of(number)), names)
            node = tree.node(number)
            if number in model.pieces:
                told = (node.pieces, node.sealed)
                self.assertEqual(told, (tuple(model.pieces[number]), model.sealed[number]))
            else:
                self.assertEqual(node.limit, model.limits[number])
                self.assertTrue(node.limit is None or tree.size_of(number) <= node.limit)

    def check_met(self, met):
        """The rows are worth something only if they lead to every answer."""
        words = {
            "mkdir": ["made", "full", "exists", "missing", "kind", "path"],
            "create": ["made", "full", "exists", "missing", "kind", "path"],
            "append": ["written", "missing", "kind", "sealed", "empty", "limit", "path"],
            "seal": ["sealed", "missing", "kind", "path"],
            "move": ["moved", "root", "missing", "kind", "within", "exists", "deep", "limit", "path"],
            "snapshot": ["made", "missing", "kind", "exists", "full", "limit", "path"],
            "limit": ["limited", "missing", "kind", "limit", "path", "deed"],
        }
        wanted = {(word, told) for word, all_told in words.items() for told in all_told}
        self.assertEqual(sorted(wanted - met), [])

    def test_0_4_two_trees_have_no_effect_on_each_other(self):
        trees = [common(), common()]
        before = state(trees[1])
        for deed in random_deeds(5, 100):
            apply_deed(trees[0], STAMP, deed)
        self.assertEqual(state(trees[1]), before)

    def test_4_11_each_form_is_taken_with_its_word_alone(self):
        shapes = {
            ("/q",): ("mkdir", "create", "seal"), ("/q", "/r"): ("append", "move", "snapshot"), ("/q", 5): ("limit",),
            (): (), (5,): (), (5, "/q"): (), (5, 5): (), ("/q", "/r", "/t"): (), ("/q", "/r", 5): (), ("/q", 5, 5): (),
        }
        for (rest, words), word in itertools.product(shapes.items(), WORDS):
            answer = apply_deed(Tree(), STAMP, (word,) + rest)
            with self.subTest(deed=(word,) + rest):
                self.assertEqual(answer == ("refused", "deed"), word not in words)


if __name__ == "__main__":
    unittest.main()
