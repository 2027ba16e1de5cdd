import unittest

from appendhall.deeds import apply_deed
from appendhall.images import tree_image
from appendhall.queries import answer_query
from appendhall.tree import Tree
from tests.model import ModelTree, random_deeds, random_queries
from tests.samples import INTEGERS, MOST, TEXTS, VALUES, nested

# /b 1, /b/c 2 (a file with two pieces), /a 3 (a sealed file), /b/d 4, /b/d/e 5 (an empty file)
DEEDS = [
    ("mkdir", "/b"), ("create", "/b/c"), ("create", "/a"), ("mkdir", "/b/d"), ("create", "/b/d/e"),
    ("append", "/b/c", "first"), ("append", "/a", "xy"), ("append", "/b/c", " 2"), ("seal", "/a"),
]


def small_tree():
    tree = Tree()
    for number, deed in enumerate(DEEDS, 1):
        answer = apply_deed(tree, (number, 7, number + 20), deed)
        assert answer[0] != "refused"
    return tree


class QueryTest(unittest.TestCase):
    def setUp(self):
        self.tree = small_tree()
        self.before = tree_image(self.tree)

    def tearDown(self):
        self.assertEqual(tree_image(self.tree), self.before)

    def check(self, query, answer):
        with self.subTest(query=query):
            found = answer_query(self.tree, query)
            self.assertEqual(found, answer)
            self.assertIs(type(found), tuple)

    def test_the_example(self):
        self.assertEqual(answer_query(Tree(), ("find", "/")), ("node", 0, 0, 0))

    def test_4_19_content(self):
        self.check(("content", 2), ("content", 2, 0, ((6, 7, 26, "first"), (8, 7, 28, " 2"))))
        self.check(("content", 3), ("content", 3, 1, ((7, 7, 27, "xy"),)))
        self.check(("content", 5), ("content", 5, 0, ()))
        self.assertIs(type(answer_query(self.tree, ("content", 2))[3]), tuple)
        self.assertIs(type(answer_query(self.tree, ("content", 3))[2]), int)
        self.assertIs(type(answer_query(self.tree, ("content", 2))[2]), int)

    def test_4_19_content_of_no_node(self):
        for number in (-1, -2, -3, -6, -MOST, 6, 7, 63, 64, MOST):
            self.check(("content", number), ("refused", "missing"))
        self.assertEqual(answer_query(Tree(), ("content", 1)), ("refused", "missing"))

    def test_4_19_content_of_a_directory(self):
        for number in (0, 1, 4):
            self.check(("content", number), ("refused", "kind"))

    def test_4_19_find(self):
        self.check(("find", "/"), ("node", 0, 0, 9))
        self.check(("find", "/b"), ("node", 1, 0, 7))
        self.check(("find", "/b/c"), ("node", 2, 1, 7))
        self.check(("find", "/a"), ("node", 3, 1, 2))
        self.check(("find", "/b/d"), ("node", 4, 0, 0))
        self.check(("find", "/b/d/e"), ("node", 5, 1, 0))

    def test_4_19_names(self):
        self.check(("names", "/"), ("names", ("a", "b")))
        self.check(("names", "/b"), ("names", ("c", "d")))
        self.check(("names", "/b/d"), ("names", ("e",)))
        self.assertEqual(answer_query(Tree(), ("names", "/")), ("names", ()))
        self.assertIs(type(answer_query(self.tree, ("names", "/"))[1]), tuple)

    def test_4_19_names_in_ascending_order(self):
        tree = Tree()
        names = ["b", "a", "10", "9", "-", "a.b", "a-b", "ab", "z", "...", "x" * 12]
        for number, name in enumerate(names, 1):
            word = "mkdir" if number % 2 else "create"
            self.assertEqual(apply_deed(tree, (number, 0, number), (word, "/" + name)), ("made", number))
        wanted = ("-", "...", "10", "9", "a", "a-b", "a.b", "ab", "b", "x" * 12, "z")
        self.assertEqual(answer_query(tree, ("names", "/")), ("names", wanted))

    def test_4_19_names_of_a_file(self):
        for path in ("/a", "/b/c", "/b/d/e"):
            self.check(("names", path), ("refused", "kind"))

    def test_4_19_no_path(self):
        for path in ("", "a", "/a/", "//", "/A", "/b/C", "/.", "/a" * 7, " /a", "/a ", "/a b", "b/c"):
            self.check(("find", path), ("refused", "path"))
            self.check(("names", path), ("refused", "path"))

    def test_4_19_look_ups_that_fail(self):
        for word in ("find", "names"):
            for path in ("/nope", "/b/a", "/nope/a", "/b/d/nope/x", "/c"):
                self.check((word, path), ("refused", "missing"))
            for path in ("/a/x", "/a/x/y", "/b/c/d", "/b/d/e/a/b/c", "/a/a"):
                self.check((word, path), ("refused", "kind"))

    def test_4_19_integers_and_texts_are_no_queries(self):
        for value in INTEGERS + TEXTS + ["content", "find", "names", "/", "/a"]:
            self.check(value, ("refused", "deed"))

    def test_4_19_values_of_none_of_the_forms(self):
        for value in VALUES:
            self.check(value, ("refused", "deed"))

    def test_4_19_wrong_words(self):
        for word in ("", "Find", "find ", "name", "contents", "node", "append", "seal", "mkdir", 0, 1, (), ("find",)):
            for item in ("/", "/a", 0, 2, ()):
                self.check((word, item), ("refused", "deed"))

    def test_4_19_items_of_a_wrong_kind(self):
        for item in ("", "2", "/", "/a", (), (2,), ("content", 2), nested(11)):
            self.check(("content", item), ("refused", "deed"))
        for item in (0, 2, -1, MOST, (), ("/",), ("find", "/"), nested(11, "/")):
            self.check(("find", item), ("refused", "deed"))
            self.check(("names", item), ("refused", "deed"))

    def test_4_19_too_few_and_too_many_items(self):
        for word in ("content", "find", "names"):
            self.check((word,), ("refused", "deed"))
            for rest in (("/", "/"), ("/", 0), (2, 2), (2, "/"), ("/", ()), (2, 2, 2), ("/", "/", "/")):
                self.check((word,) + rest, ("refused", "deed"))
        self.check((), ("refused", "deed"))

    def test_4_19_deeds_are_no_queries(self):
        for deed in DEEDS + [("limit", "/", 5), ("move", "/a", "/x"), ("snapshot", "/a", "/x")]:
            self.check(deed, ("refused", "deed"))

    def test_4_19_many_trees(self):
        for seed in range(15):
            tree = Tree()
            model = ModelTree()
            for number, deed in enumerate(random_deeds(seed, 150), 1):
                apply_deed(tree, (number, 0, number), deed)
                model.apply((number, 0, number), deed)
            before = tree_image(tree)
            for query in random_queries(seed, 100, model):
                self.assertEqual(answer_query(tree, query), model.answer(query), query)
            self.assertEqual(tree_image(tree), before)


if __name__ == "__main__":
    unittest.main()
