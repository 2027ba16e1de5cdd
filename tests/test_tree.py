import random
import unittest

from appendhall.errors import Unknown
from appendhall.images import tree_image
from appendhall.nodes import Directory, File
from appendhall.tree import Tree
from tests.model import ModelTree
from tests.samples import FAR, MOST


def file_of(length):
    made = File()
    if length > 0:
        made.add_piece((1, 0, 1, "x" * length))
    return made


def small_tree():
    """/a, /a/b, /a/b/c (5 characters), /a/d (3), /e (20), /f"""
    tree = Tree()
    tree.attach(0, "a", Directory())
    tree.attach(1, "b", Directory())
    tree.attach(2, "c", file_of(5))
    tree.attach(1, "d", file_of(3))
    tree.attach(0, "e", file_of(20))
    tree.attach(0, "f", Directory())
    return tree


def view(tree):
    """All that the methods of a tree tell."""
    rows = []
    for number in range(len(tree)):
        names = tree.names_of(number)
        row = (names, tree.above(number), tree.size_of(number), tree.height_of(number), tree.look_up(names))
        rows.append(row)
    return rows


class NewTreeTest(unittest.TestCase):
    def test_the_example(self):
        tree = Tree()
        self.assertEqual(tree.attach(0, "a", Directory()), 1)
        self.assertEqual(tree.attach(1, "b", File()), 2)
        self.assertEqual(tree.look_up(["a", "b"]), 2)
        self.assertEqual(tree.look_up(["a", "b", "c"]), "kind")
        self.assertEqual(tree.above(2), [1, 0])

    def test_4_4_a_tree_has_only_the_root(self):
        tree = Tree()
        self.assertEqual(len(tree), 1)
        root = tree.node(0)
        self.assertIs(type(root), Directory)
        self.assertEqual((root.names(), root.limit), ([], None))
        self.assertEqual(view(tree), [([], [], 0, 0, 0)])

    def test_4_4_numbers_that_are_no_node(self):
        for tree in (Tree(), small_tree()):
            before = tree_image(tree)
            for number in (-1, -2, -len(tree), len(tree), len(tree) + 1, 63, 64, MOST, -MOST, FAR, -FAR):
                with self.assertRaises(Unknown):
                    tree.node(number)
            self.assertEqual(tree_image(tree), before)

    def test_0_4_two_trees_have_no_effect_on_each_other(self):
        one = Tree()
        other = Tree()
        one.attach(0, "a", Directory())
        one.node(0).set_limit(5)
        self.assertEqual((len(other), other.node(0).names(), other.node(0).limit), (1, [], None))
        self.assertEqual(other.look_up(["a"]), "missing")
        self.assertIsNot(one.node(0), other.node(0))


class AttachTest(unittest.TestCase):
    def test_4_4_each_new_node_gets_the_next_number(self):
        tree = Tree()
        for number in range(1, 64):
            self.assertEqual(tree.attach(0, f"n{number}", File() if number % 2 else Directory()), number)
            self.assertEqual(len(tree), number + 1)
        for number in range(1, 64):
            self.assertEqual((tree.look_up([f"n{number}"]), tree.above(number)), (number, [0]))

    def test_the_tree_holds_the_very_object(self):
        tree = Tree()
        held = [tree.node(0)]
        for number in range(1, 10):
            held.append(Directory() if number % 3 else file_of(number))
            parent = number - 1 if number % 3 != 1 else 0
            tree.attach(parent, f"n{number}", held[number])
        for number, node in enumerate(held):
            self.assertIs(tree.node(number), node)
            self.assertIs(tree.node(number), tree.node(number))

    def test_the_object_still_has_what_it_had(self):
        tree = Tree()
        place = Directory()
        place.set_limit(7)
        notes = file_of(4)
        notes.seal()
        tree.attach(0, "place", place)
        tree.attach(1, "notes", notes)
        self.assertEqual((tree.node(1).limit, tree.node(2).sealed, tree.node(2).length), (7, True, 4))

    def test_what_happens_to_the_object_shows_in_the_tree(self):
        tree = Tree()
        notes = File()
        tree.attach(0, "a", Directory())
        tree.attach(1, "notes", notes)
        self.assertEqual((tree.size_of(0), tree.size_of(1), tree.size_of(2)), (0, 0, 0))
        notes.add_piece((1, 0, 1, "abc"))
        self.assertEqual((tree.size_of(0), tree.size_of(1), tree.size_of(2)), (3, 3, 3))
        tree.node(2).add_piece((2, 0, 2, "de"))
        self.assertEqual((tree.size_of(0), notes.length), (5, 5))

    def test_4_5_the_parent_gets_an_entry(self):
        tree = small_tree()
        self.assertEqual(tree.node(0).names(), ["a", "e", "f"])
        self.assertEqual([tree.node(0).child(name) for name in "aef"], [1, 5, 6])
        self.assertEqual((tree.node(1).names(), tree.node(1).child("b"), tree.node(1).child("d")), (["b", "d"], 2, 4))
        self.assertEqual((tree.node(2).names(), tree.node(2).child("c")), (["c"], 3))
        self.assertEqual(tree.node(6).names(), [])

    def test_4_5_one_name_in_several_directories(self):
        tree = Tree()
        numbers = [tree.attach(number, "a", Directory()) for number in range(6)]
        self.assertEqual(numbers, [1, 2, 3, 4, 5, 6])
        self.assertEqual(tree.look_up(["a"] * 6), 6)
        self.assertEqual([tree.names_of(number) for number in range(7)], [["a"] * count for count in range(7)])

    def test_limits_are_not_asked_for(self):
        tree = Tree()
        tree.node(0).set_limit(0)
        self.assertEqual(tree.attach(0, "a", file_of(9)), 1)
        place = Directory()
        place.set_limit(1)
        self.assertEqual(tree.attach(0, "b", place), 2)
        self.assertIsNone(tree.move_node(1, 2, "a"))
        self.assertEqual(tree.size_of(2), 9)


class LookUpTest(unittest.TestCase):
    def test_4_9_what_is_there(self):
        tree = small_tree()
        self.assertEqual(tree.look_up([]), 0)
        self.assertEqual(tree.look_up(["a"]), 1)
        self.assertEqual(tree.look_up(["a", "b"]), 2)
        self.assertEqual(tree.look_up(["a", "b", "c"]), 3)
        self.assertEqual(tree.look_up(["a", "d"]), 4)
        self.assertEqual(tree.look_up(["e"]), 5)
        self.assertEqual(tree.look_up(["f"]), 6)

    def test_4_9_missing(self):
        tree = small_tree()
        for names in (["b"], ["x"], ["f", "a"], ["a", "a"], ["a", "b", "d"], ["x", "y", "z"], ["f", "e"], [""], ["aa"]):
            self.assertEqual(tree.look_up(names), "missing")
        self.assertEqual(Tree().look_up(["a"]), "missing")

    def test_4_9_through_a_file(self):
        tree = small_tree()
        for names in (["e", "a"], ["e", "x", "y"], ["a", "d", "a"], ["a", "b", "c", "d"], ["e", "e"]):
            self.assertEqual(tree.look_up(names), "kind")

    def test_4_9_the_first_failure_counts(self):
        tree = small_tree()
        self.assertEqual(tree.look_up(["a", "x", "e", "y"]), "missing")
        self.assertEqual(tree.look_up(["a", "d", "x", "y"]), "kind")

    def test_4_9_more_than_six_names(self):
        tree = Tree()
        for number in range(6):
            tree.attach(number, "a", Directory())
        for count in (7, 8, 100):
            self.assertEqual(tree.look_up(["a"] * count), "missing")
            self.assertEqual(tree.look_up(["a", "b"] + ["a"] * count), "missing")
            self.assertEqual(small_tree().look_up(["a", "b", "c"] + ["a"] * count), "kind")
            self.assertEqual(small_tree().look_up(["e"] * count), "kind")

    def test_0_4_the_list_stays_as_it_was(self):
        tree = small_tree()
        for names in ([], ["a", "b", "c"], ["a", "x", "c"], ["e", "x"]):
            before = list(names)
            tree.look_up(names)
            self.assertEqual(names, before)

    def test_looking_changes_nothing(self):
        tree = small_tree()
        before = tree_image(tree)
        for names in ([], ["x"], ["a", "x"], ["e", "x"], ["f"]):
            tree.look_up(names)
        view(tree)
        self.assertEqual(tree_image(tree), before)


class WaysUpAndDownTest(unittest.TestCase):
    def test_4_5_names_of(self):
        wanted = [[], ["a"], ["a", "b"], ["a", "b", "c"], ["a", "d"], ["e"], ["f"]]
        tree = small_tree()
        self.assertEqual([tree.names_of(number) for number in range(7)], wanted)

    def test_4_6_above(self):
        wanted = [[], [0], [1, 0], [2, 1, 0], [1, 0], [0], [0]]
        tree = small_tree()
        self.assertEqual([tree.above(number) for number in range(7)], wanted)

    def test_4_8_size_of(self):
        tree = small_tree()
        self.assertEqual([tree.size_of(number) for number in range(7)], [28, 8, 5, 5, 3, 20, 0])
        tree.node(3).add_piece((2, 0, 2, "y" * 100))
        self.assertEqual([tree.size_of(number) for number in range(7)], [128, 108, 105, 105, 3, 20, 0])

    def test_height_of(self):
        tree = small_tree()
        self.assertEqual([tree.height_of(number) for number in range(7)], [3, 2, 1, 0, 0, 0, 0])
        tree.attach(6, "a", Directory())
        self.assertEqual([tree.height_of(number) for number in range(8)], [3, 2, 1, 0, 0, 0, 1, 0])

    def test_height_of_the_deepest_tree(self):
        tree = Tree()
        for number in range(6):
            tree.attach(number, "a", Directory() if number < 5 else File())
        self.assertEqual([tree.height_of(number) for number in range(7)], [6, 5, 4, 3, 2, 1, 0])

    def test_0_4_the_lists_are_new(self):
        tree = small_tree()
        before = view(tree)
        for number in range(7):
            tree.names_of(number).append("x")
            tree.above(number).append(9)
            tree.names_of(number).clear()
            tree.above(number).clear()
        self.assertEqual(view(tree), before)


class MoveTest(unittest.TestCase):
    def test_4_5_another_name(self):
        tree = small_tree()
        self.assertIsNone(tree.move_node(5, 0, "g"))
        self.assertEqual((tree.look_up(["g"]), tree.look_up(["e"])), (5, "missing"))
        self.assertEqual((tree.node(0).names(), tree.names_of(5), tree.above(5)), (["a", "f", "g"], ["g"], [0]))

    def test_4_5_into_another_directory(self):
        tree = small_tree()
        tree.move_node(5, 2, "e")
        self.assertEqual((tree.look_up(["a", "b", "e"]), tree.look_up(["e"])), (5, "missing"))
        self.assertEqual((tree.names_of(5), tree.above(5)), (["a", "b", "e"], [2, 1, 0]))
        self.assertEqual([tree.size_of(number) for number in range(7)], [28, 28, 25, 5, 3, 20, 0])
        self.assertEqual((tree.node(0).names(), tree.node(2).names()), (["a", "f"], ["c", "e"]))

    def test_4_5_all_that_is_below_moves_too(self):
        tree = small_tree()
        tree.move_node(1, 6, "deep")
        self.assertEqual((tree.look_up(["f", "deep", "b", "c"]), tree.look_up(["a", "b", "c"])), (3, "missing"))
        self.assertEqual(tree.names_of(3), ["f", "deep", "b", "c"])
        self.assertEqual((tree.above(3), tree.above(1)), ([2, 1, 6, 0], [6, 0]))
        self.assertEqual([tree.size_of(number) for number in range(7)], [28, 8, 5, 5, 3, 20, 8])
        self.assertEqual([tree.height_of(number) for number in range(7)], [4, 2, 1, 0, 0, 0, 3])

    def test_4_5_up_again(self):
        tree = small_tree()
        before = view(tree)
        tree.move_node(2, 0, "b")
        self.assertEqual((tree.names_of(3), tree.above(3), tree.size_of(1)), (["b", "c"], [2, 0], 3))
        self.assertEqual((tree.height_of(0), tree.height_of(1)), (2, 1))
        tree.move_node(2, 1, "b")
        self.assertEqual(view(tree), before)

    def test_4_5_a_name_that_was_left_is_free_again(self):
        tree = small_tree()
        tree.move_node(1, 6, "a")
        self.assertEqual(tree.attach(0, "a", Directory()), 7)
        self.assertEqual((tree.look_up(["a"]), tree.look_up(["f", "a"])), (7, 1))

    def test_4_4_a_node_keeps_its_number_and_its_object(self):
        tree = small_tree()
        held = [tree.node(number) for number in range(7)]
        tree.move_node(1, 6, "x")
        tree.move_node(3, 0, "y")
        tree.move_node(6, 0, "z")
        self.assertEqual(len(tree), 7)
        for number, node in enumerate(held):
            self.assertIs(tree.node(number), node)

    def test_a_node_below_one_with_a_greater_number(self):
        tree = small_tree()
        tree.move_node(1, 6, "a")
        self.assertEqual(tree.attach(3 - 1, "new", Directory()), 7)
        self.assertEqual(tree.above(7), [2, 1, 6, 0])
        tree.move_node(4, 7, "d")
        self.assertEqual(tree.names_of(4), ["f", "a", "b", "new", "d"])

    def test_many_moves(self):
        for seed in range(20):
            self.check_moves(random.Random(seed))

    def check_moves(self, chooser):
        tree = Tree()
        model = ModelTree()
        for step in range(120):
            parent = chooser.randrange(len(tree))
            if parent in model.pieces or len(model.paths[parent]) == 6:
                continue
            name = "abcdef"[step % 6]
            if tree.node(parent).child(name) is not None:
                continue
            if chooser.random() < 0.4 and len(tree) < 64:
                self.attach_to_both(chooser, tree, model, parent, name)
            else:
                self.move_in_both(chooser.randrange(len(tree)), tree, model, parent, name)
            self.assertEqual(view(tree), self.view_of_model(model))

    def attach_to_both(self, chooser, tree, model, parent, name):
        number = model.new_node(model.paths[parent] + (name,))
        if chooser.random() < 0.5:
            model.limits[number] = None
            self.assertEqual(tree.attach(parent, name, Directory()), number)
        else:
            model.pieces[number] = [(1, 0, 1, "x" * number)]
            self.assertEqual(tree.attach(parent, name, file_of(number)), number)

    def move_in_both(self, number, tree, model, parent, name):
        new = model.paths[parent] + (name,)
        if number == 0 or parent in model.below(number) or len(new) + model.height(number) > 6:
            return
        old = model.paths[number]
        for at in model.below(number):
            model.paths[at] = new + model.paths[at][len(old):]
        tree.move_node(number, parent, name)

    def view_of_model(self, model):
        rows = []
        for number, names in model.paths.items():
            rows.append((list(names), model.above(number), model.size(number), model.height(number), number))
        return rows


if __name__ == "__main__":
    unittest.main()
