"""Point 8: lay."""

import unittest

from lines import begin, fewest, go, lay, left, look, looked, most, on, told

ORDINARY = [1, 2, 0, 3, 1]


class Taken(unittest.TestCase):
    def test_what_it_bears_then(self):
        self.assertEqual(on(ORDINARY, lay(1, 1)), [2])
        self.assertEqual(on(ORDINARY, lay(2, 2)), [4])
        self.assertEqual(on(ORDINARY, lay(3, 4)), [4])

    def test_so_many_more_are_borne_there_and_nowhere_else(self):
        self.assertEqual(left(begin(ORDINARY), lay(1, 1)), [2, 2, 0, 3, 1])
        self.assertEqual(left(begin(ORDINARY), lay(3, 4)), [1, 2, 4, 3, 1])
        self.assertEqual(left(begin(ORDINARY), lay(5, 2)), [1, 2, 0, 3, 3])

    def test_up_to_just_5(self):
        for place, borne in enumerate(ORDINARY, start=1):
            self.assertEqual(on(ORDINARY, lay(place, 5 - borne)), [5])
        self.assertEqual(on([0], lay(1, 5)), [5])
        self.assertEqual(on([4], lay(1, 1)), [5])

    def test_the_first_and_the_last_of_11_places(self):
        self.assertEqual(left(begin([0] * 11), lay(1, 3), lay(11, 5)), [3] + [0] * 9 + [5])

    def test_one_behind_another(self):
        calls = [begin([0, 1]), lay(1, 2), lay(1, 2), lay(1, 2), lay(1, 1), lay(2, 4), look()]
        self.assertEqual(told(*calls), [[0], [2], [4], [-1], [5], [4 + 1], [0, 0, 9, 2, 5, 5]])

    def test_calls_behind_it_show_it(self):
        calls = [begin([1, 0, 1]), fewest(1), lay(2, 1), fewest(1), go(1, [1, 2, 3]), most(1), lay(2, 5), most(3)]
        self.assertEqual(told(*calls), [[0], [-6], [1], [3, 1, 2, 3], [3], [0], [5], [5]])

    def test_a_sunk_stone_is_laid_on(self):
        calls = [begin([1]), go(1, [1]), lay(1, 5), look()]
        self.assertEqual(told(*calls), [[0], [1], [5], [1, 1, 5, 1, 5]])


class Refused(unittest.TestCase):
    def test_no_place_between_the_banks(self):
        for place in (0, 6, 7, 12, 20):
            self.assertEqual(on(ORDINARY, lay(place, 1)), [-1])
        for place in (0, 12, 13, 20):
            self.assertEqual(on([0] * 11, lay(place, 1)), [-1])
        for place in (0, 2, 3, 20):
            self.assertEqual(on([0], lay(place, 1)), [-1])

    def test_no_steps(self):
        for place in range(1, 6):
            self.assertEqual(on(ORDINARY, lay(place, 0)), [-1])
        self.assertEqual(on([5], lay(1, 0)), [-1])

    def test_it_would_bear_more_than_5(self):
        for place, borne in enumerate(ORDINARY, start=1):
            for steps in range(5 - borne + 1, 10):
                self.assertEqual(on(ORDINARY, lay(place, steps)), [-1])
        self.assertEqual(on([5], lay(1, 1)), [-1])

    def test_several_at_once(self):
        for place, steps in ((0, 0), (6, 0), (20, 9), (0, 9)):
            self.assertEqual(on(ORDINARY, lay(place, steps)), [-1])

    def test_nothing_changes(self):
        for place, steps in ((0, 1), (6, 1), (7, 1), (20, 9), (1, 0), (1, 5), (2, 4), (3, 6), (4, 9)):
            self.assertEqual(looked(begin(ORDINARY), lay(place, steps)), [0, 0, 0, 5] + ORDINARY)
            self.assertEqual(looked(begin(ORDINARY), lay(5, 1), lay(place, steps)), [0, 0, 1, 5, 1, 2, 0, 3, 2])


if __name__ == "__main__":
    unittest.main()
