import random
import unittest

from appendhall.deeds import apply_deed
from appendhall.queries import answer_query
from appendhall.space import Space
from appendhall.tree import Tree
from appendhall.values import depth, is_value
from tests.model import ModelSpace, random_deeds, random_queries
from tests.samples import MOST

SKIPPED = ("skipped",)


def random_records(seed, count):
    """Records of a few clients, of which some have a serial that is not the next one."""
    chooser = random.Random(seed)
    serials = {}
    records = []
    for deed in random_deeds(seed, count):
        client = chooser.choice((0, 1, 7, MOST))
        serial = serials.get(client, 0) + chooser.choice((1, 1, 1, 1, 0, 2, -1, 5))
        if serial < 1:
            serial = 1
        if serial == serials.get(client, 0) + 1:
            serials[client] = serial
        records.append((client, serial, deed))
    return records


def filled(records):
    space = Space()
    for record in records:
        space.apply(record)
    return space


def view(space):
    clients = (0, 1, 2, 3, 7, MOST)
    lasts = [(space.last_serial(client), space.last_answer(client)) for client in clients]
    contents = [space.query(("content", number)) for number in range(-1, 65)]
    return space.applied, lasts, contents, space.query(("names", "/")), space.query(("find", "/")), space.to_image()


class SpaceTest(unittest.TestCase):
    def test_the_example(self):
        space = Space()
        self.assertEqual(space.apply((7, 1, ("create", "/notes"))), ("made", 1))
        self.assertEqual(space.apply((7, 1, ("seal", "/notes"))), SKIPPED)
        self.assertEqual(space.apply((7, 2, ("append", "/notes", "first"))), ("written", 3, 1, 0))
        self.assertEqual(space.last_serial(7), 2)
        self.assertEqual(space.query(("content", 1)), ("content", 1, 0, ((3, 7, 2, "first"),)))

    def test_4_20_a_new_space(self):
        space = Space()
        self.assertEqual(space.applied, 0)
        for client in (0, 1, 7, MOST):
            self.assertEqual(space.last_serial(client), 0)
            self.assertIsNone(space.last_answer(client))
        self.assertEqual(space.query(("find", "/")), ("node", 0, 0, 0))
        self.assertEqual(space.query(("names", "/")), ("names", ()))
        self.assertEqual(space.query(("content", 1)), ("refused", "missing"))

    def test_4_20_records_are_numbered_in_the_order_in_which_they_are_applied(self):
        space = Space()
        space.apply((0, 1, ("create", "/a")))
        for number in range(2, 30):
            answer = space.apply((number, 1, ("append", "/a", "xy")))
            self.assertEqual(answer, ("written", number, 1, 2 * (number - 2)))
            self.assertEqual(space.applied, number)

    def test_4_21_serials_that_are_not_the_next_one(self):
        for last in (0, 1, 2, 5):
            space = Space()
            for serial in range(1, last + 1):
                self.assertEqual(space.apply((3, serial, ("mkdir", f"/d{serial}"))), ("made", serial))
            for serial in (1, last - 1, last, last + 2, last + 3, 100, MOST):
                if serial < 1 or serial == last + 1:
                    continue
                applied = space.applied
                before = view(space)[1:5]
                self.assertEqual(space.apply((3, serial, ("mkdir", "/new"))), SKIPPED)
                self.assertEqual(space.applied, applied + 1)
                self.assertEqual(view(space)[1:5], before)
            self.assertEqual(space.apply((3, last + 1, ("mkdir", "/new"))), ("made", last + 1))

    def test_4_21_the_first_record_of_a_client(self):
        for serial in (2, 3, MOST):
            space = Space()
            self.assertEqual(space.apply((0, serial, ("mkdir", "/a"))), SKIPPED)
            self.assertEqual((space.last_serial(0), space.last_answer(0), space.applied), (0, None, 1))
            self.assertEqual(space.query(("names", "/")), ("names", ()))

    def test_4_21_a_skipped_record_uses_up_its_number(self):
        space = Space()
        space.apply((0, 1, ("create", "/a")))
        space.apply((0, 1, ("append", "/a", "x")))
        space.apply((0, 3, ("append", "/a", "x")))
        self.assertEqual(space.apply((0, 2, ("append", "/a", "x"))), ("written", 4, 1, 0))
        self.assertEqual(space.query(("content", 1)), ("content", 1, 0, ((4, 0, 2, "x"),)))

    def test_4_21_several_clients(self):
        space = Space()
        self.assertEqual(space.apply((0, 1, ("create", "/a"))), ("made", 1))
        self.assertEqual(space.apply((1, 2, ("create", "/b"))), SKIPPED)
        self.assertEqual(space.apply((1, 1, ("create", "/b"))), ("made", 2))
        self.assertEqual(space.apply((MOST, 1, ("seal", "/a"))), ("sealed", 1, 0))
        self.assertEqual(space.apply((1, 1, ("seal", "/b"))), SKIPPED)
        self.assertEqual(space.apply((0, 2, ("append", "/a", "x"))), ("refused", "sealed"))
        self.assertEqual([space.last_serial(client) for client in (0, 1, MOST, 2)], [2, 1, 1, 0])
        wanted = [("refused", "sealed"), ("made", 2), ("sealed", 1, 0), None]
        self.assertEqual([space.last_answer(client) for client in (0, 1, MOST, 2)], wanted)
        self.assertEqual(space.applied, 6)

    def test_4_22_refused_deeds_use_up_the_serial(self):
        space = Space()
        deeds = [(("seal", "/a"), "missing"), (("mkdir", "a"), "path"), (("fly",), "deed"), (("mkdir", "/"), "exists"),
                 (("limit", "/", -1), "deed"), (("append", "/", "x"), "kind"), (("move", "/", "/a"), "root")]
        for serial, (deed, word) in enumerate(deeds, 1):
            self.assertEqual(space.apply((5, serial, deed)), ("refused", word))
            self.assertEqual((space.last_serial(5), space.last_answer(5)), (serial, ("refused", word)))
            self.assertEqual(space.apply((5, serial, ("create", "/a"))), SKIPPED)
            self.assertEqual((space.last_serial(5), space.last_answer(5)), (serial, ("refused", word)))
        self.assertEqual(space.apply((5, len(deeds) + 1, ("create", "/a"))), ("made", 1))

    def test_4_22_the_last_answer(self):
        space = Space()
        rows = [(("create", "/a"), ("made", 1)), (("append", "/a", "xyz"), ("written", 2, 1, 0)),
                (("limit", "/", 3), ("limited", 0, 3)), (("append", "/a", "x"), ("refused", "limit")),
                (("seal", "/a"), ("sealed", 1, 3)), (("move", "/a", "/b"), ("moved", 1))]
        for serial, (deed, answer) in enumerate(rows, 1):
            self.assertEqual(space.apply((2, serial, deed)), answer)
            self.assertEqual((space.last_serial(2), space.last_answer(2)), (serial, answer))
            self.assertEqual((space.last_serial(1), space.last_answer(1)), (0, None))

    def test_4_22_the_stamp_of_a_piece(self):
        space = Space()
        space.apply((9, 1, ("create", "/a")))
        space.apply((9, 2, ("seal", "/nope")))
        space.apply((4, 1, ("append", "/a", "four")))
        space.apply((9, 3, ("append", "/a", "nine")))
        pieces = ((3, 4, 1, "four"), (4, 9, 3, "nine"))
        self.assertEqual(space.query(("content", 1)), ("content", 1, 0, pieces))

    def test_4_19_queries_change_nothing(self):
        space = filled(random_records(3, 100))
        before = view(space)
        for query in (("find", "/"), ("names", "/a"), ("content", 0), 5, "find", (), ("find", "no path"), ("x", "/")):
            space.query(query)
        self.assertEqual(view(space), before)
        self.assertEqual(space.query(5), ("refused", "deed"))
        self.assertEqual(space.query(("find", "x")), ("refused", "path"))

    def test_4_20_to_4_22_rows_of_records(self):
        for seed in range(15):
            space = Space()
            model = ModelSpace()
            for record in random_records(seed, 200):
                self.assertEqual(space.apply(record), model.apply(record))
                self.assertEqual(space.applied, model.applied)
            for client in (0, 1, 2, 7, MOST):
                self.assertEqual(space.last_serial(client), model.serials.get(client, 0))
                self.assertEqual(space.last_answer(client), model.answers.get(client))
            for query in random_queries(seed, 60, model.tree):
                self.assertEqual(space.query(query), model.tree.answer(query))

    def test_the_tree_is_the_one_that_the_deeds_lead_to(self):
        deeds = random_deeds(8, 150)
        tree = Tree()
        space = Space()
        for number, deed in enumerate(deeds, 1):
            answer = apply_deed(tree, (number, 6, number), deed)
            self.assertEqual(space.apply((6, number, deed)), answer)
        for number in range(-1, 65):
            self.assertEqual(space.query(("content", number)), answer_query(tree, ("content", number)))

    def test_0_4_two_spaces_have_no_effect_on_each_other(self):
        one = Space()
        other = Space()
        before = view(other)
        for record in random_records(1, 50):
            one.apply(record)
        self.assertEqual(view(other), before)


class ImageTest(unittest.TestCase):
    def test_4_23_an_image_is_a_value(self):
        for seed in range(10):
            space = Space()
            for record in random_records(seed, 100):
                image = space.to_image()
                self.assertTrue(is_value(image))
                self.assertLessEqual(depth(image), 6)
                space.apply(record)

    def test_4_23_equal_records_give_equal_images(self):
        self.assertEqual(Space().to_image(), Space().to_image())
        for seed in range(10):
            records = random_records(seed, 100)
            self.assertEqual(filled(records).to_image(), filled(records).to_image())

    def test_4_23_each_record_shows_in_the_image(self):
        space = Space()
        records = [(0, 1, ("create", "/a")), (0, 1, ("create", "/b")), (1, 1, ("seal", "/nope")),
                   (0, 2, ("append", "/a", "x")), (1, 2, ("limit", "/", 9)), (7, 3, ("seal", "/a"))]
        images = [space.to_image()]
        for record in records:
            space.apply(record)
            images.append(space.to_image())
        for at, image in enumerate(images):
            self.assertEqual(images.index(image), at)

    def test_4_23_the_order_in_which_clients_came_stays_out_of_it(self):
        # What is read back gives the image that it was read from, whichever client came first.
        space = filled([(9, 1, ("seal", "/a")), (2, 1, ("seal", "/a")), (5, 1, ("seal", "/a")), (2, 2, ("seal", "/a"))])
        again = Space.from_image(space.to_image())
        for record in [(9, 2, ("mkdir", "/a")), (1, 1, ("mkdir", "/b"))]:
            self.assertEqual(again.apply(record), space.apply(record))
        self.assertEqual(again.to_image(), space.to_image())

    def test_4_23_a_space_is_read_back(self):
        for records in ([], [(0, 2, ("seal", "/a"))], random_records(4, 300)):
            space = filled(records)
            again = Space.from_image(space.to_image())
            self.assertIs(type(again), Space)
            self.assertEqual(view(again), view(space))

    def test_4_23_it_goes_on_alike(self):
        for seed in range(15):
            records = random_records(seed, 200)
            space = Space()
            for start in range(0, 200, 40):
                again = Space.from_image(space.to_image())
                for record in records[start:start + 40]:
                    self.assertEqual(again.apply(record), space.apply(record))
                    self.assertEqual(again.to_image(), space.to_image())
                self.assertEqual(view(again), view(space))
                space = again

    def test_4_23_neither_of_the_two_changes_the_other(self):
        one = filled(random_records(2, 80))
        other = Space.from_image(one.to_image())
        before = view(one)
        last = one.last_serial(0)
        for space, kept in ((one, other), (Space.from_image(other.to_image()), other)):
            for at, deed in enumerate([("mkdir", "/new"), ("create", "/new/f"), ("append", "/new/f", "x"),
                                       ("seal", "/new/f"), ("limit", "/new", 10), ("move", "/new", "/newer")]):
                self.assertNotEqual(space.apply((0, last + 1 + at, deed))[0], "skipped")
            self.assertEqual(view(kept), before)

    def test_4_23_large_numbers(self):
        space = Space()
        space.apply((MOST, 1, ("create", "/a")))
        space.apply((MOST - 1, MOST, ("seal", "/a")))
        space.apply((MOST, 2, ("limit", "/", MOST)))
        again = Space.from_image(space.to_image())
        self.assertTrue(is_value(space.to_image()))
        self.assertEqual((again.last_serial(MOST), again.last_serial(MOST - 1)), (2, 0))
        self.assertEqual(again.last_answer(MOST), ("limited", 0, 0))


if __name__ == "__main__":
    unittest.main()
