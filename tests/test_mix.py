"""Call 5, mix."""

import unittest

from helper import REFUSED, add, ask, length, mix, read, rough, to_words, tree_mix

TOP = 2 ** 32 - 1


class Mix(unittest.TestCase):
    def test_zeros(self):
        self.assertEqual(ask(mix([0] * 6)), [[0, 0, 0, 0]])

    def test_worked_by_hand(self):
        self.assertEqual(ask(mix([1, 0, 0, 0, 0, 0])), [[0x11, 0x20220202, 0x11010100, 0x11000100]])

    def test_x_and_y_come_in_at_different_steps(self):
        self.assertEqual(ask(mix([0, 0, 0, 0, 1, 0])), [[0x11, 0x20220202, 0x11010100, 0x11000100]])
        self.assertEqual(ask(mix([0, 0, 0, 0, 0, 1])), [[1, 0x00020000, 0x01000000, 0x01000000]])

    def test_many(self):
        for seed in range(60):
            words = to_words(rough(24, seed))
            self.assertEqual(ask(mix(words)), [list(tree_mix(*words))], words)

    def test_largest_words(self):
        for words in ([TOP] * 6, [TOP, 0, 0, 0, 0, 0], [0, TOP, 0, 0, 0, 0], [0, 0, TOP, 0, TOP, TOP], [0, 0, 0, TOP, 1, 0]):
            self.assertEqual(ask(mix(words)), [list(tree_mix(*words))], words)

    def test_other_than_six_numbers(self):
        for many in (0, 1, 4, 5, 7, 8, 12, 20):
            self.assertEqual(ask(mix([1] * many)), [REFUSED], many)

    def test_number_of_2_to_the_32_or_more(self):
        for place in range(6):
            for large in (2 ** 32, 2 ** 32 + 1, 1099511627775):
                words = [1, 2, 3, 4, 5, 6]
                words[place] = large
                self.assertEqual(ask(mix(words)), [REFUSED], (place, large))

    def test_object_plays_no_part_and_stays(self):
        given = ask(add([1, 2]), read(0, 32), mix([1, 2, 3, 4, 5, 6]), mix([]), length(), read(0, 32))
        self.assertEqual(given[2], list(tree_mix(1, 2, 3, 4, 5, 6)))
        self.assertEqual(given[3:], [REFUSED, [2], given[1]])


if __name__ == "__main__":
    unittest.main()
