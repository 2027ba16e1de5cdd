import unittest

from appendhall.epochs import next_epoch, owner
from tests.samples import MOST


class EpochsTest(unittest.TestCase):
    def test_the_example(self):
        self.assertEqual(next_epoch(7, 1, 3), 10)

    def test_6_1_owner(self):
        self.assertEqual([owner(epoch, 3) for epoch in range(1, 10)], [1, 2, 0, 1, 2, 0, 1, 2, 0])
        self.assertEqual([owner(epoch, 1) for epoch in range(1, 5)], [0, 0, 0, 0])
        self.assertEqual([owner(epoch, 2) for epoch in range(1, 5)], [1, 0, 1, 0])
        self.assertEqual((owner(5, 10), owner(10, 10), owner(11, 10)), (5, 0, 1))
        self.assertEqual((owner(MOST, 7), owner(MOST, MOST), owner(MOST - 1, MOST)), (MOST % 7, 0, MOST - 1))

    def test_6_1_next_epochs_from_0_on(self):
        self.assertEqual([next_epoch(0, number, 4) for number in range(4)], [4, 1, 2, 3])
        self.assertEqual([next_epoch(seen, 0, 1) for seen in range(5)], [1, 2, 3, 4, 5])
        self.assertEqual([next_epoch(seen, 0, 2) for seen in range(5)], [2, 2, 4, 4, 6])
        self.assertEqual([next_epoch(seen, 1, 2) for seen in range(5)], [1, 3, 3, 5, 5])

    def test_6_1_the_least_epoch_above_that_belongs_to_the_manager(self):
        for managers in range(1, 9):
            for number in range(managers):
                for seen in list(range(40)) + [MOST - 100, MOST - 50, MOST - 13, 10 ** 9, 10 ** 9 + 1]:
                    wanted = [epoch for epoch in range(seen + 1, seen + managers + 1) if epoch % managers == number]
                    with self.subTest(seen=seen, number=number, managers=managers):
                        epoch = next_epoch(seen, number, managers)
                        self.assertEqual([epoch], wanted)
                        self.assertEqual(owner(epoch, managers), number)

    def test_6_1_an_epoch_has_one_owner(self):
        for managers in range(1, 9):
            for seen in (0, 1, 5, 10 ** 17):
                epochs = [next_epoch(seen, number, managers) for number in range(managers)]
                self.assertEqual(sorted(epochs), list(range(seen + 1, seen + managers + 1)))


if __name__ == "__main__":
    unittest.main()
