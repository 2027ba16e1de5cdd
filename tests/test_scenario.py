import unittest

from appendhall.hall import Hall
from appendhall.scenario import perform, run
from tests.draws import Draws
from tests.halls import DrawnDeeds, hall_state
from tests.samples import FAR, odd_things

CREATE = ("create", "/a")
FIND = ("find", "/")

# A scenario with the numbers that its deeds return; each of the thirteen deeds is among them.
ROW = [
    (("campaign", 0), [1, 2, 3]),
    (("deliver", 1), [4]),
    (("deliver", 3), [5]),
    (("resend", 0), [6, 7, 8]),
    (("deliver", 4), []),
    (("deliver", 5), [9, 10, 11]),
    (("drop", 11), []),
    (("deliver", 9), [12]),
    (("deliver", 10), [13]),
    (("deliver", 12), []),
    (("deliver", 13), []),
    (("ask", 1, CREATE), []),
    (("look", 1, FIND), []),
    (("send", 1, 0), [14, 15]),
    (("deliver", 14), [16, 17, 18]),
    (("deliver", 16), [19]),
    (("deliver", 17), [20]),
    (("deliver", 19), []),
    (("deliver", 20), [21]),
    (("checkpoint", 0), [22, 23, 24]),
    (("checkpoint", 0), []),
    (("checkpoint", 1), []),
    (("arm", ("client", 1), 0, 0), []),
    (("disarm", ("client", 1)), []),
    (("arm", ("client", 1), 1, 1), []),
    (("deliver", 21), []),
    (("destroy", 2), []),
    (("stop", ("journal", 0)), []),
    (("stop", ("journal", 0)), []),
    (("start", ("journal", 0)), []),
]

# What is refused in the hall that the row has led to.
REFUSED = [
    (("ask", 2, CREATE), "Unknown"), (("ask", 1, ()), "BadValue"), (("look", -1, FIND), "Unknown"),
    (("look", 1, ("",)), "BadValue"), (("send", 0, 2), "Unknown"), (("send", FAR, 0), "Unknown"),
    (("campaign", 2), "Unknown"), (("resend", -1), "Unknown"), (("checkpoint", 7), "Unknown"), (("deliver", 0), "Unknown"),
    (("deliver", 11), "Unknown"), (("deliver", 24), "Destroyed"), (("drop", 11), "Unknown"), (("drop", 25), "Unknown"),
    (("stop", ("journal", 3)), "Unknown"), (("stop", ("journal", 2)), "Destroyed"), (("start", ("x", 0)), "Unknown"),
    (("start", ("journal", 2)), "Destroyed"), (("arm", ("journal", 0), -1, 0), "BadValue"),
    (("arm", ("journal", 0), 0, None), "BadValue"), (("arm", ("journal", 2), 0, 0), "Destroyed"),
    (("arm", ("client", 9), 0, 0), "Unknown"), (("disarm", ("journal", 2)), "Destroyed"),
    (("disarm", ("manager", 2)), "Unknown"), (("destroy", 0), "TooFew"), (("destroy", 2), "Destroyed"),
    (("destroy", 3), "Unknown"),
]

LENGTHS = {
    "ask": 3, "look": 3, "send": 3, "campaign": 2, "resend": 2, "checkpoint": 2, "deliver": 2, "drop": 2, "stop": 2,
    "start": 2, "arm": 4, "disarm": 2, "destroy": 2,
}


def after_row():
    hall = Hall()
    run(hall, [deed for deed, _ in ROW])
    return hall


class ScenarioTest(unittest.TestCase):
    def test_the_example(self):
        hall = Hall(journals=1, managers=1, clients=1)
        deeds = [("campaign", 0), ("deliver", 1), ("deliver", 9), ("stop", ("journal", 0)), ("deliver", 1)]
        self.assertEqual(run(hall, deeds), [("done", [1]), ("done", [2]), ("refused", "Unknown"), ("done", []),
                                            ("refused", "MachineDown")])

    def test_9_7_each_deed(self):
        self.assertEqual({deed[0] for deed, _ in ROW}, set(LENGTHS))
        hall = Hall()
        for deed, numbers in ROW:
            with self.subTest(deed=deed):
                outcome = perform(hall, deed)
                self.assertEqual(outcome, ("done", numbers))
                self.assertIs(type(outcome), tuple)
        other = Hall()
        self.assertEqual(run(other, [deed for deed, _ in ROW]), [("done", numbers) for _, numbers in ROW])
        self.assertEqual(hall_state(hall), hall_state(other))
        self.assertEqual(hall.book.events()[-1], ("answered", 1, 1, ("made", 1)))

    def test_9_7_each_deed_does_what_the_method_does(self):
        hall, other = Hall(), Hall()
        for deed, _ in ROW:
            perform(hall, deed)
            if deed[0] == "arm":
                other.arm(deed[1], deed[2], after=deed[3])
            else:
                getattr(other, deed[0])(*deed[1:])
            self.assertEqual(hall_state(hall), hall_state(other))

    def test_9_7_refusals(self):
        hall = after_row()
        before = hall_state(hall)
        for deed, name in REFUSED:
            with self.subTest(deed=deed):
                self.assertEqual(perform(hall, deed), ("refused", name))
                self.assertEqual(hall_state(hall), before)

    def test_9_7_machine_down_and_busy(self):
        hall = Hall()
        self.assertEqual(perform(hall, ("ask", 0, CREATE)), ("done", []))
        self.assertEqual(perform(hall, ("ask", 0, CREATE)), ("refused", "Busy"))
        for machine in hall.machines():
            perform(hall, ("campaign", 0))
            perform(hall, ("stop", machine))
        for deed in (("ask", 0, CREATE), ("look", 0, FIND), ("send", 0, 0), ("campaign", 0), ("resend", 0), ("checkpoint", 0),
                     ("deliver", 1)):
            self.assertEqual(perform(hall, deed), ("refused", "MachineDown"))

    def test_9_7_other_lengths(self):
        hall = after_row()
        before = hall_state(hall)
        for word, length in LENGTHS.items():
            for items in ((0, 0, 0, 0, 0), (("client", 0), 0, 0, 0, 0), (0, CREATE, CREATE, 0, 0), (1, 0, 0, 0, 0)):
                for count in range(1, 7):
                    if count != length:
                        deed = (word,) + items[:count - 1]
                        with self.subTest(deed=deed):
                            self.assertEqual(perform(hall, deed), ("refused", "BadValue"))
        self.assertEqual(hall_state(hall), before)

    def test_9_7_other_names_and_the_empty_tuple(self):
        hall = after_row()
        before = hall_state(hall)
        self.assertEqual(perform(hall, ()), ("refused", "BadValue"))
        words = ["", "Ask", "ask ", "note", "machines", "is_up", "running", "disk", "intact", "settle", "run", "__init__",
                 "destroyed", 0, 1, None, (), ("ask",), CREATE, *odd_things()]
        for word in words:
            for items in ((), (0,), (("client", 0),), (0, CREATE), (0, 0), (("client", 0), 0, 0)):
                self.assertEqual(perform(hall, (word,) + items), ("refused", "BadValue"))
        self.assertEqual(hall_state(hall), before)

    def test_9_7_running_no_deeds(self):
        hall = Hall()
        before = hall_state(hall)
        self.assertEqual(run(hall, []), [])
        self.assertEqual(hall_state(hall), before)

    def test_9_7_the_outcomes_are_in_the_order_of_the_deeds(self):
        hall = Hall()
        outcomes = run(hall, [("drop", 1), ("campaign", 1), (), ("drop", 1), ("destroy", 9)])
        self.assertEqual(outcomes, [("refused", "Unknown"), ("done", [1, 2, 3]), ("refused", "BadValue"), ("done", []),
                                    ("refused", "Unknown")])

    def test_0_4_the_list_of_deeds_is_not_changed(self):
        deeds = [deed for deed, _ in ROW]
        run(Hall(), deeds)
        self.assertEqual(deeds, [deed for deed, _ in ROW])

    def test_9_7_the_same_scenario_leads_to_the_same(self):
        for seed in range(5):
            hall = Hall(journals=3, managers=2, clients=2)
            drawn = DrawnDeeds(Draws(seed), hall)
            deeds, outcomes = [], []
            for step in range(300):
                deeds.append(drawn.next(step))
                outcomes.append(perform(hall, deeds[-1]))
            other = Hall(journals=3, managers=2, clients=2)
            self.assertEqual(run(other, deeds), outcomes)
            self.assertEqual(hall_state(other), hall_state(hall))


if __name__ == "__main__":
    unittest.main()
