"""Point 6: go."""

import unittest

from lines import begin, go, left, looked, most, narrowest, on, seen, told

ORDINARY = [1, 2, 0, 3, 1]


class Taken(unittest.TestCase):
    def test_how_many_steps(self):
        self.assertEqual(on(ORDINARY, go(2, [2, 4])), [2])
        self.assertEqual(on(ORDINARY, go(2, [1, 2, 4, 5])), [4])
        self.assertEqual(on([1] * 11, go(1, list(range(1, 12)))), [11])
        self.assertEqual(on([5], go(1, [1])), [1])

    def test_a_path_with_no_places(self):
        self.assertEqual(on(ORDINARY, go(6, [])), [0])
        self.assertEqual(on([0] * 11, go(12, [])), [0])
        self.assertEqual(seen(begin(ORDINARY), go(6, [])), seen(begin(ORDINARY)))

    def test_steps_that_were_not_needed(self):
        self.assertEqual(on(ORDINARY, go(12, [1, 5])), [2])
        self.assertEqual(seen(begin(ORDINARY), go(12, [1, 5])), seen(begin([0, 2, 0, 3, 0])))

    def test_each_stone_on_it_bears_one_less(self):
        self.assertEqual(seen(begin(ORDINARY), go(2, [2, 4])), seen(begin([1, 1, 0, 2, 1])))
        self.assertEqual(left(begin([5] * 11), go(5, [5, 10])), [5, 5, 5, 5, 4, 5, 5, 5, 5, 4, 5])

    def test_a_stone_sinks(self):
        calls = [begin([3])] + [go(1, [1])] * 4 + [most(1)]
        self.assertEqual(told(*calls), [[0], [1], [1], [1], [-6, 1], [0]])

    def test_calls_behind_it_show_it(self):
        calls = [begin([2, 1, 2]), narrowest(2), go(2, [1, 2]), narrowest(2), go(2, [2]), go(2, [1, 3]), most(2)]
        self.assertEqual(told(*calls), [[0], [3, 1], [2], [1, 1], [-6, 2], [2], [0]])


class Refused(unittest.TestCase):
    def test_places_that_are_not_rising(self):
        for path in ([4, 2], [2, 2, 4], [2, 4, 4], [1, 5, 4], [2, 4, 2]):
            self.assertEqual(on(ORDINARY, go(3, path)), [-1])

    def test_numbers_that_are_no_place_between_the_banks(self):
        for path in ([0], [0, 2, 4], [2, 4, 6], [6], [20], [2, 4, 20]):
            self.assertEqual(on(ORDINARY, go(3, path)), [-1])

    def test_paths_of_14_numbers(self):
        self.assertEqual(on([5] * 11, go(1, list(range(1, 15)))), [-1])
        self.assertEqual(on([5] * 11, go(12, [1] * 14)), [-1])

    def test_1_counts_ahead_of_what_comes_along_the_path(self):
        self.assertEqual(on(ORDINARY, go(1, [3, 3])), [-1])
        self.assertEqual(on(ORDINARY, go(1, [3, 6])), [-1])
        self.assertEqual(on(ORDINARY, go(13, [3])), [-1])

    def test_further_than_a_leap(self):
        self.assertEqual(on(ORDINARY, go(1, [2, 4])), [-7, 2])
        self.assertEqual(on(ORDINARY, go(2, [1, 4])), [-7, 4])
        self.assertEqual(on(ORDINARY, go(2, [1, 2, 5])), [-7, 5])

    def test_further_than_a_leap_to_the_far_bank(self):
        self.assertEqual(on(ORDINARY, go(2, [2])), [-7, 6])
        self.assertEqual(on(ORDINARY, go(5, [])), [-7, 6])
        self.assertEqual(on([5], go(1, [])), [-7, 2])
        self.assertEqual(on([1] * 11, go(11, [])), [-7, 12])

    def test_a_stone_that_bears_none(self):
        self.assertEqual(on(ORDINARY, go(3, [3, 4])), [-6, 3])
        self.assertEqual(on(ORDINARY, go(3, [2, 3, 5])), [-6, 3])
        self.assertEqual(on([0], go(12, [1])), [-6, 1])

    def test_whichever_comes_first(self):
        self.assertEqual(on([0, 1, 1, 1, 1], go(2, [1, 5])), [-6, 1])
        self.assertEqual(on([1, 1, 1, 1, 0], go(2, [4, 5])), [-7, 4])
        self.assertEqual(on([1, 1, 0, 1, 1], go(2, [2, 3])), [-6, 3])

    def test_of_one_place_7_ahead_of_6(self):
        self.assertEqual(on([1, 1, 0], go(2, [3])), [-7, 3])
        self.assertEqual(on([1, 1, 1, 0, 1], go(2, [1, 4])), [-7, 4])

    def test_nothing_changes(self):
        untouched = seen(begin(ORDINARY))
        for leap, path in ((2, [2, 3, 4]), (2, [1, 2, 5]), (2, [1, 2]), (3, [1, 2, 2]), (3, [1, 6]), (0, [1])):
            self.assertLess(on(ORDINARY, go(leap, path))[0], 0)
            self.assertEqual(seen(begin(ORDINARY), go(leap, path)), untouched)
            self.assertEqual(looked(begin(ORDINARY), go(leap, path)), [0, 0, 0, 5] + ORDINARY)


if __name__ == "__main__":
    unittest.main()
