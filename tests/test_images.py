import unittest

from appendhall.deeds import apply_deed
from appendhall.errors import Unknown
from appendhall.images import tree_from_image, tree_image
from appendhall.nodes import Directory, File
from appendhall.queries import answer_query
from appendhall.tree import Tree
from appendhall.values import depth, is_value
from tests.model import ModelTree, random_deeds, random_queries
from tests.samples import MOST

# A node that was moved below one with a greater number, limits of 0 and of the greatest number, a snapshot.
DEEDS = [
    ("mkdir", "/a"), ("create", "/a/f"), ("mkdir", "/b"), ("mkdir", "/b/c"), ("append", "/a/f", "x" * 200),
    ("move", "/a", "/b/c/a"), ("limit", "/b", MOST), ("append", "/b/c/a/f", "~"), ("snapshot", "/b/c/a/f", "/s"),
    ("create", "/empty"), ("mkdir", "/none"), ("limit", "/none", 0), ("seal", "/empty"), ("move", "/s", "/b/s"),
    ("create", "/open"), ("append", "/open", "end"),
]


def grow(tree, deeds, start=1):
    return [apply_deed(tree, (number, number % 3, number), deed) for number, deed in enumerate(deeds, start)]


def grown(deeds):
    tree = Tree()
    grow(tree, deeds)
    return tree


def view(tree):
    """What a tree has, asked for by its methods alone."""
    rows = []
    for number in range(len(tree)):
        node = tree.node(number)
        row = [tree.names_of(number), tree.above(number), tree.size_of(number), tree.height_of(number)]
        if isinstance(node, File):
            row += [node.pieces, node.sealed, node.length]
        else:
            row += [node.limit, node.names(), [node.child(name) for name in node.names()]]
        rows.append(row)
    return rows


class ImageTest(unittest.TestCase):
    def check_image(self, image):
        self.assertTrue(is_value(image))
        self.assertLessEqual(depth(image), 5)

    def test_4_23_an_image_is_a_value(self):
        for tree in (Tree(), grown(DEEDS)):
            self.check_image(tree_image(tree))

    def test_4_23_large_numbers(self):
        tree = Tree()
        apply_deed(tree, (1, 0, 1), ("create", "/f"))
        apply_deed(tree, (MOST, MOST, MOST), ("append", "/f", "x" * 200))
        apply_deed(tree, (MOST, MOST, MOST), ("limit", "/", MOST))
        image = tree_image(tree)
        self.check_image(image)
        again = tree_from_image(image)
        self.assertEqual(answer_query(again, ("content", 1)), ("content", 1, 0, ((MOST, MOST, MOST, "x" * 200),)))
        self.assertEqual(again.node(0).limit, MOST)

    def test_4_23_equal_deeds_give_equal_images(self):
        self.assertEqual(tree_image(Tree()), tree_image(Tree()))
        self.assertEqual(tree_image(grown(DEEDS)), tree_image(grown(DEEDS)))
        for seed in range(10):
            deeds = random_deeds(seed, 120)
            self.assertEqual(tree_image(grown(deeds)), tree_image(grown(deeds)))

    def test_4_23_each_deed_shows_in_the_image(self):
        tree = Tree()
        images = [tree_image(tree)]
        for number, deed in enumerate(DEEDS, 1):
            self.assertNotEqual(apply_deed(tree, (number, 0, number), deed)[0], "refused")
            images.append(tree_image(tree))
            self.assertEqual(images[-1], tree_image(tree))
        for at, image in enumerate(images):
            self.assertEqual(images.index(image), at)

    def test_4_23_a_limit_of_0_is_not_no_limit(self):
        tree = tree_from_image(tree_image(grown([("mkdir", "/a"), ("mkdir", "/b"), ("limit", "/a", 0)])))
        self.assertEqual([tree.node(number).limit for number in range(3)], [None, 0, None])

    def test_4_23_a_tree_is_read_back(self):
        for deeds in ([], DEEDS, [("mkdir", "/a" * count) for count in range(1, 7)],
                      [("create", f"/f{number}") for number in range(63)]):
            tree = grown(deeds)
            again = tree_from_image(tree_image(tree))
            self.assertIs(type(again), Tree)
            self.assertEqual(view(again), view(tree))
            self.assertEqual(tree_image(again), tree_image(tree))
            with self.assertRaises(Unknown):
                again.node(len(tree))
            with self.assertRaises(Unknown):
                again.node(-1)

    def test_4_23_it_goes_on_alike(self):
        for seed in range(20):
            deeds = random_deeds(seed, 200)
            tree = Tree()
            model = ModelTree()
            for start in range(0, 200, 50):
                again = tree_from_image(tree_image(tree))
                part = deeds[start:start + 50]
                answers = grow(tree, part, start + 1)
                self.assertEqual(grow(again, part, start + 1), answers)
                for number, deed in enumerate(part, start + 1):
                    model.apply((number, number % 3, number), deed)
                for query in random_queries(seed, 30, model):
                    self.assertEqual(answer_query(again, query), answer_query(tree, query))
                self.assertEqual(view(again), view(tree))
                self.assertEqual(tree_image(again), tree_image(tree))
                tree = again

    def test_4_23_attaching_and_moving_go_on(self):
        tree = tree_from_image(tree_image(grown(DEEDS)))
        self.assertEqual(len(tree), 9)
        self.assertEqual(tree.attach(4, "new", Directory()), 9)
        tree.move_node(1, 9, "a")
        self.assertEqual((tree.names_of(2), tree.above(2)), (["b", "c", "new", "a", "f"], [1, 9, 4, 3, 0]))
        self.assertEqual(tree.look_up(["b", "c", "a"]), "missing")

    def test_0_4_neither_of_the_two_changes_the_other(self):
        more = [("append", "/open", "x"), ("seal", "/open"), ("limit", "/", 5000), ("move", "/b", "/bb"),
                ("mkdir", "/new"), ("create", "/b/new"), ("append", "/b/c/a/f", "y")]
        for deed in more:
            one = grown(DEEDS)
            other = tree_from_image(tree_image(one))
            before = (view(one), tree_image(one))
            self.assertNotEqual(apply_deed(one, (90, 1, 90), deed)[0], "refused")
            self.assertEqual((view(other), tree_image(other)), before)
            one = tree_from_image(tree_image(other))
            self.assertNotEqual(apply_deed(one, (90, 1, 90), deed)[0], "refused")
            self.assertEqual((view(other), tree_image(other)), before)

    def test_0_4_two_trees_of_one_image(self):
        image = tree_image(grown(DEEDS))
        one = tree_from_image(image)
        other = tree_from_image(image)
        before = view(other)
        grow(one, random_deeds(1, 100), 50)
        self.assertEqual(view(other), before)
        self.assertEqual(image, tree_image(grown(DEEDS)))


if __name__ == "__main__":
    unittest.main()
