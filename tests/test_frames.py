import unittest

from appendhall.disk import Disk
from appendhall.errors import BadWords
from appendhall.frames import PIECE, frame_blocks, read_frame
from tests.samples import FAR, MOST, disk_state, fates_of

LENGTHS = (1, 2, 7, 8, 9, 15, 16, 17, 24, 25)


def some_words(length):
    return ["w", 5, "", -7, "i", 0][:length] + list(range(max(0, length - 6)))


def disk_with(blocks, at):
    disk = Disk()
    for index, block in enumerate(blocks):
        disk.write(at + index, block)
    disk.sync()
    return disk


class FrameBlocksTest(unittest.TestCase):
    def test_2_9_the_example(self):
        self.assertEqual(frame_blocks(2, 1, ["t", 2, "i", 5, "t", 1, "s", "note", "i"]), [
            (2, 1, 0, 2, "t", 2, "i", 5, "t", 1, "s", "note"),
            (2, 1, 1, 2, "i"),
        ])
        self.assertEqual(PIECE, 8)

    def test_2_9_each_length(self):
        for length in LENGTHS:
            words = some_words(length)
            pieces = [words[at:at + 8] for at in range(0, length, 8)]
            wanted = [(3, 4, index, len(pieces), *piece) for index, piece in enumerate(pieces)]
            self.assertEqual(frame_blocks(3, 4, words), wanted)
        self.assertEqual(len(frame_blocks(0, 1, some_words(16))), 2)
        self.assertEqual(len(frame_blocks(0, 1, some_words(17))), 3)

    def test_2_9_the_greatest_and_least_numbers(self):
        self.assertEqual(frame_blocks(MOST, 0, ["i"]), [(MOST, 0, 0, 1, "i")])
        self.assertEqual(frame_blocks(0, MOST, ["i"]), [(0, MOST, 0, 1, "i")])

    def test_2_9_no_words(self):
        with self.assertRaises(BadWords):
            frame_blocks(1, 1, [])

    def test_2_9_the_words_stay_and_the_list_is_new(self):
        words = some_words(9)
        kept = list(words)
        blocks = frame_blocks(1, 1, words)
        self.assertEqual(words, kept)
        self.assertIs(type(blocks), list)
        blocks.clear()
        self.assertEqual(len(frame_blocks(1, 1, words)), 2)

    def test_2_9_the_blocks_are_blocks_of_a_disk(self):
        disk = disk_with(frame_blocks(MOST, MOST, ["x" * 200] * 17), 0)
        self.assertEqual(disk.extent, 3)


class ReadFrameTest(unittest.TestCase):
    def test_2_10_each_length_at_some_places(self):
        for length in LENGTHS:
            for at in (0, 1, 5, 10 ** 17):
                words = some_words(length)
                blocks = frame_blocks(3, 4, words)
                disk = disk_with(blocks, at)
                with self.subTest(length=length, at=at):
                    found = read_frame(disk, at, 3, 4)
                    self.assertEqual(found, (words, at + len(blocks)))
                    self.assertEqual((type(found), type(found[0])), (tuple, list))

    def test_2_10_the_list_is_new(self):
        disk = disk_with(frame_blocks(3, 4, ["a", 1]), 0)
        read_frame(disk, 0, 3, 4)[0].clear()
        self.assertEqual(read_frame(disk, 0, 3, 4), (["a", 1], 1))

    def test_2_10_pending_blocks_are_seen(self):
        disk = Disk()
        for index, block in enumerate(frame_blocks(1, 2, some_words(9))):
            self.assertIsNone(read_frame(disk, 0, 1, 2))
            disk.write(index, block)
        self.assertEqual(read_frame(disk, 0, 1, 2), (some_words(9), 2))
        disk.sync()
        self.assertEqual(read_frame(disk, 0, 1, 2), (some_words(9), 2))
        disk.write(1, ())
        self.assertIsNone(read_frame(disk, 0, 1, 2))

    def test_2_10_another_generation_or_number(self):
        disk = disk_with(frame_blocks(3, 4, some_words(9)), 0)
        for generation, number in ((3, 5), (3, 3), (2, 4), (4, 4), (4, 3), (0, 0), (MOST, MOST)):
            self.assertIsNone(read_frame(disk, 0, generation, number))

    def test_2_10_a_blank_disk(self):
        for at in (0, 1, MOST):
            self.assertIsNone(read_frame(Disk(), at, 0, 0))
            self.assertIsNone(read_frame(Disk(), at, 0, 1))

    def test_2_10_reading_changes_nothing(self):
        disk = disk_with(frame_blocks(3, 4, some_words(9)), 0)
        disk.write(0, ("pending",))
        disk.arm(1, after=1)
        before = disk_state(disk)
        for at in (0, 1, 2, MOST, MOST + 1):
            read_frame(disk, at, 3, 4)
        self.assertEqual(disk_state(disk), before)

    def test_2_10_each_item_of_the_header_changed(self):
        for length in LENGTHS:
            blocks = frame_blocks(3, 4, some_words(length))
            for index, block in enumerate(blocks):
                for item in range(4):
                    for new in self.other_items(block[item]):
                        changed = block[:item] + (new,) + block[item + 1:]
                        disk = disk_with(blocks[:index] + [changed] + blocks[index + 1:], 0)
                        # A first block that tells the count 1 is a whole frame by itself.
                        alone = (index, item, new) == (0, 3, 1)
                        wanted = (some_words(length)[:8], 1) if alone else None
                        with self.subTest(length=length, index=index, item=item, new=new):
                            self.assertEqual(read_frame(disk, 0, 3, 4), wanted)

    def other_items(self, item):
        return [new for new in (0, 1, 2, 3, 4, 5, item + 1, item - 1, -item, -1, MOST, -MOST, "", str(item)) if new != item]

    def test_2_10_each_word_changed(self):
        words = some_words(17)
        for at in range(17):
            for new in ("other", 99):
                changed = words[:at] + [new] + words[at + 1:]
                disk = disk_with(frame_blocks(3, 4, changed), 0)
                self.assertEqual(read_frame(disk, 0, 3, 4), (changed, 3))

    def test_2_10_words_missing_or_behind(self):
        blocks = frame_blocks(3, 4, some_words(17))
        for index in (0, 1):
            for length in range(4, 12):
                short = blocks[:index] + [blocks[index][:length]] + blocks[index + 1:]
                self.assertIsNone(read_frame(disk_with(short, 0), 0, 3, 4))
        self.assertIsNone(read_frame(disk_with(blocks[:2] + [blocks[2][:4]], 0), 0, 3, 4))
        longer = blocks[:2] + [blocks[2] + ("more", 8)]
        self.assertEqual(read_frame(disk_with(longer, 0), 0, 3, 4), (some_words(17) + ["more", 8], 3))
        self.assertIsNone(read_frame(disk_with([(3, 4, 0, 1)], 0), 0, 3, 4))

    def test_2_10_a_block_missing_torn_or_of_another_kind(self):
        blocks = frame_blocks(3, 4, some_words(17))
        others = [(), (3,), (3, 4), (3, 4, 0), (3, 4, 1), (3, 4, 0, 3), ("head", 3, 4), (3, 4, 0, "3", "w"), ("w",) * 12]
        for index in range(3):
            for other in others:
                disk = disk_with(blocks[:index] + [other] + blocks[index + 1:], 0)
                with self.subTest(index=index, other=other):
                    self.assertIsNone(read_frame(disk, 0, 3, 4))
            disk = disk_with(blocks, 0)
            disk.write(index, ("torn",))
            disk.lose_power(fates_of([2]))
            self.assertIsNone(read_frame(disk, 0, 3, 4))
            disk.write(index, blocks[index])
            self.assertEqual(read_frame(disk, 0, 3, 4), (some_words(17), 3))

    def test_2_10_pieces_in_another_order_or_place(self):
        blocks = frame_blocks(3, 4, some_words(17))
        self.assertIsNone(read_frame(disk_with([blocks[1], blocks[0], blocks[2]], 0), 0, 3, 4))
        self.assertIsNone(read_frame(disk_with([blocks[0], (), blocks[1], blocks[2]], 0), 0, 3, 4))
        self.assertIsNone(read_frame(disk_with(blocks, 0), 1, 3, 4))
        self.assertIsNone(read_frame(disk_with(blocks[1:], 0), 0, 3, 4))

    def test_2_10_a_frame_at_the_end_of_a_disk(self):
        for length, count in ((1, 1), (8, 1), (9, 2), (17, 3)):
            words = some_words(length)
            at = MOST - count + 1
            disk = disk_with(frame_blocks(3, 4, words), at)
            self.assertEqual(read_frame(disk, at, 3, 4), (words, MOST + 1))

    def test_2_10_a_frame_that_would_end_above_the_greatest_index(self):
        for length, count in ((9, 2), (17, 3), (25, 4)):
            for kept in range(1, count):
                blocks = frame_blocks(3, 4, some_words(length))[:kept]
                at = MOST - kept + 1
                self.assertIsNone(read_frame(disk_with(blocks, at), at, 3, 4))
        disk = disk_with([(3, 4, 0, MOST, *range(8))], 0)
        self.assertIsNone(read_frame(disk, 0, 3, 4))
        disk = disk_with([(3, 4, 0, MOST, *range(8))], MOST)
        self.assertIsNone(read_frame(disk, MOST, 3, 4))

    def test_2_10_an_index_above_the_greatest(self):
        disk = disk_with(frame_blocks(3, 4, some_words(8)), MOST)
        for at in (MOST + 1, MOST + 2, 2 * MOST, FAR):
            self.assertIsNone(read_frame(disk, at, 3, 4))


if __name__ == "__main__":
    unittest.main()
