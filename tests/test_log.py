import itertools
import unittest

from appendhall.errors import BadValue, OutOfRange
from appendhall.log import Log
from tests.samples import BEYOND, FAR, MOST, NO_TEXTS, nested, odd_things

BASES = (0, 1, 4, 1000, MOST - 10, MOST - 3)
SIZES = (0, 1, 2, 3)


def record_of(number):
    return (number % 3, number + 1 if number < MOST else 1, ("append", "/a", str(number)))


def log_of(base, size, image="image"):
    return Log(base, image, tuple(record_of(base + 1 + at) for at in range(size)))


def all_logs():
    return [log_of(base, size) for base, size in itertools.product(BASES, SIZES)]


def numbers_around(log):
    """Numbers from two below the base to two above the length, and some far off."""
    near = list(range(log.base - 2, log.base + len(log.records) + 3))
    return near + [0, -1, -2, -MOST, -FAR, 2 * MOST, FAR]


class LogTest(unittest.TestCase):
    def setUp(self):
        self.logs = all_logs()

    def tearDown(self):
        self.assertEqual([log.value() for log in self.logs], [log.value() for log in all_logs()])

    def test_the_example(self):
        log = Log(4, "image", ((0, 1, ("seal", "/a")), (1, 1, ("seal", "/b"))))
        self.assertEqual(log.length, 6)
        joined = log.joined(6, ((1, 1, ("seal", "/b")), (0, 2, ("seal", "/c"))))
        self.assertEqual(joined.after(5), ((1, 1, ("seal", "/b")), (0, 2, ("seal", "/c"))))
        self.assertEqual(log.cut(9, "later").value(), (9, "later", ()))

    def test_3_3_the_fields_and_the_length(self):
        for base, size in itertools.product(BASES, SIZES):
            log = log_of(base, size, ("an", ("image",)))
            records = tuple(record_of(base + 1 + at) for at in range(size))
            self.assertEqual((log.base, log.image, log.records), (base, ("an", ("image",)), records))
            self.assertEqual((log.length, len(log), list(log)), (base + size, size, list(records)))
            self.assertEqual(log.value(), (base, ("an", ("image",)), records))
            self.assertIs(type(log.value()), tuple)

    def test_3_3_record(self):
        for log in self.logs:
            for number in numbers_around(log):
                with self.subTest(log=log.value(), at=hex(number)[:30]):
                    if log.base < number <= log.base + len(log.records):
                        self.assertEqual(log.record(number), record_of(number))
                    else:
                        with self.assertRaises(OutOfRange):
                            log.record(number)

    def test_3_3_after(self):
        for log in self.logs:
            for number in numbers_around(log):
                length = log.base + len(log.records)
                with self.subTest(log=log.value(), at=hex(number)[:30]):
                    if log.base <= number <= length:
                        wanted = tuple(record_of(at) for at in range(number + 1, length + 1))
                        self.assertEqual(log.after(number), wanted)
                        self.assertIs(type(log.after(number)), tuple)
                    else:
                        with self.assertRaises(OutOfRange):
                            log.after(number)

    def test_3_4_with_record(self):
        more = (9, 9, ("more",))
        for log in self.logs:
            longer = log.with_record(more)
            self.assertEqual(longer.value(), (log.base, log.image, log.records + (more,)))
            self.assertEqual((longer.length, longer.record(longer.length)), (log.length + 1, more))

    def test_3_5_joined_in_range(self):
        for log in self.logs:
            for first in numbers_around(log):
                for size in range(0, 7):
                    self.check_joined(log, first, size)

    def check_joined(self, log, first, size):
        # The records that are joined differ from those of the log: they are not compared.
        records = tuple(("other", first + at) for at in range(size))
        with self.subTest(log=log.value(), first=hex(first)[:30], size=size):
            if not 1 <= first <= log.length + 1:
                with self.assertRaises(OutOfRange):
                    log.joined(first, records)
                return
            wanted = log.records + tuple(record for record in records if record[1] > log.length)
            joined = log.joined(first, records)
            self.assertEqual(joined.value(), (log.base, log.image, wanted))
            self.assertIs(type(joined), Log)

    def test_3_5_joined_from_below_the_base(self):
        log = log_of(4, 2)
        records = tuple(("other", number) for number in range(1, 9))
        self.assertEqual(log.joined(1, records).records, log.records + (("other", 7), ("other", 8)))
        self.assertEqual(log.joined(1, records[:4]).value(), log.value())
        self.assertEqual(log.joined(1, ()).value(), log.value())
        self.assertEqual(log.joined(7, ()).value(), log.value())

    def test_3_6_cut(self):
        for log in self.logs:
            for number in numbers_around(log):
                with self.subTest(log=log.value(), at=hex(number)[:30]):
                    if number < log.base:
                        with self.assertRaises(OutOfRange):
                            log.cut(number, "later")
                        continue
                    wanted = tuple(record_of(at) for at in range(log.base + 1, log.length + 1) if at > number)
                    cut = log.cut(number, ("later",))
                    self.assertEqual(cut.value(), (number, ("later",), wanted))
                    self.assertEqual(cut.length, max(number, log.length))

    def test_3_6_a_log_that_was_cut(self):
        log = log_of(4, 3).cut(5, "later").with_record(("more",))
        self.assertEqual((log.length, log.record(8), log.after(7)), (8, ("more",), (("more",),)))
        self.assertEqual(log.record(6), record_of(6))
        with self.assertRaises(OutOfRange):
            log.record(5)

    def test_3_7_agrees(self):
        choices = [(base, size, image, odd) for base in (0, 1, 2, 3, 6) for size in range(4)
                   for image in ("a", "b") for odd in (0, 1, 2, 3, 4, 5)]
        for one, other in itertools.product(choices, repeat=2):
            first = self.mixed_log(*one)
            second = self.mixed_log(*other)
            self.assertIs(first.agrees(second), self.wanted_agreement(first, second), (one, other))

    def mixed_log(self, base, size, image, odd):
        """A log in which the record with the number odd, if it is held, is another one."""
        numbers = range(base + 1, base + size + 1)
        return Log(base, image, tuple(("odd",) if number == odd else record_of(number) for number in numbers))

    def wanted_agreement(self, first, second):
        held = [dict(enumerate(log.records, log.base + 1)) for log in (first, second)]
        same = all(record == held[1][number] for number, record in held[0].items() if number in held[1])
        return same and (first.base != second.base or first.image == second.image)

    def test_3_7_agrees_in_plain_cases(self):
        log = log_of(4, 3, "a")
        self.assertIs(log.agrees(log), True)
        self.assertIs(log.agrees(log_of(4, 1, "a")), True)
        self.assertIs(log.agrees(log_of(4, 0, "b")), False)
        self.assertIs(log.agrees(log_of(5, 1, "b")), True)
        self.assertIs(log.agrees(log_of(0, 2, "b")), True)
        self.assertIs(log.agrees(log_of(0, 9, "b")), True)
        self.assertIs(log.agrees(log_of(MOST, 0, "b")), True)
        self.assertIs(log.agrees(Log(4, "a", (record_of(5), ("odd",)))), False)
        self.assertIs(log.agrees(Log(6, "b", (("odd",),))), False)
        self.assertIs(log.agrees(Log(7, "b", (("odd",),))), True)

    def test_3_4_the_records_are_not_shared_wrongly(self):
        log = log_of(4, 2)
        one = log.with_record(("one",))
        other = log.with_record(("other",))
        self.assertEqual((one.records[-1], other.records[-1], len(log)), (("one",), ("other",), 2))


class FromValueTest(unittest.TestCase):
    def test_each_log_comes_back(self):
        for log in all_logs():
            back = Log.from_value(log.value())
            self.assertIs(type(back), Log)
            self.assertEqual(back.value(), log.value())
            self.assertEqual((back.base, back.image, back.records), (log.base, log.image, log.records))
        self.assertEqual(Log.from_value((MOST, nested(12), ())).value(), (MOST, nested(12), ()))

    def check_bad(self, things):
        for at, thing in enumerate(things):
            with self.subTest(at=at):
                with self.assertRaises(BadValue):
                    Log.from_value(thing)

    def test_what_is_no_tuple_of_three_items(self):
        record = (0, 1, ("a",))
        self.check_bad([[0, "", ()], (), (0,), (0, ""), (0, "", (), ()), (0, "", (), 0), "abc", 5, "", record])
        self.check_bad(odd_things() + [nested(60)])

    def test_bases(self):
        wrong = [-1, -MOST, MOST + 1, FAR, "", "0", (), (0,)] + odd_things()
        self.check_bad([(base, "image", ()) for base in wrong])

    def test_images(self):
        wrong = BEYOND + NO_TEXTS + [[], nested(13), nested(59), (1, [2]), ("a", None)] + odd_things()
        self.check_bad([(0, image, ()) for image in wrong])

    def test_records(self):
        record = (0, 1, ("a",))
        others = [(0, 0, ("a",)), (-1, 1, ("a",)), (0, 1, ()), (0, 1, ("",)), (0, 1), (), "", 0, [0, 1, ("a",)]]
        others += odd_things()
        self.check_bad([(0, "", [record]), (0, "", []), (0, "", record), (0, "", "abc"), (0, "", ""), (0, "", 5)])
        self.check_bad([(0, "", odd) for odd in odd_things()])
        self.check_bad([(0, "", (other,)) for other in others])
        self.check_bad([(0, "", (record, other)) for other in others])
        self.check_bad([(0, "", (other, record)) for other in others])


if __name__ == "__main__":
    unittest.main()
