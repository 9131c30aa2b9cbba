"""Points 2 to 5: most, narrowest, fewest and plan."""

import unittest

from lines import fewest, most, narrowest, on, plan

ORDINARY = [1, 2, 0, 3, 1]


class Most(unittest.TestCase):
    def test_ordinary(self):
        self.assertEqual([on(ORDINARY, most(leap)) for leap in range(1, 6)], [[0], [2], [3], [6], [7]])

    def test_nobody_can(self):
        self.assertEqual(on([0], most(1)), [0])
        self.assertEqual(on([5, 0, 0, 5], most(2)), [0])

    def test_more_than_20_can(self):
        self.assertEqual(on([5] * 11, most(11)), [55])
        self.assertEqual(on([5] * 11, most(1)), [5])

    def test_a_leap_to_the_far_bank_is_enough(self):
        self.assertEqual(on(ORDINARY, most(6)), [-8])
        self.assertEqual(on(ORDINARY, most(7)), [-8])
        self.assertEqual(on([0], most(2)), [-8])
        self.assertEqual(on([0] * 11, most(12)), [-8])


class Narrowest(unittest.TestCase):
    def test_ordinary(self):
        wanted = [[0, 3], [2, 2], [3, 1], [6, 1], [7, 1]]
        self.assertEqual([on(ORDINARY, narrowest(leap)) for leap in range(1, 6)], wanted)

    def test_the_last_stretch(self):
        self.assertEqual(on([3, 3, 1, 1], narrowest(2)), [2, 3])
        self.assertEqual(on([5] * 10 + [4], narrowest(1)), [4, 11])

    def test_of_several_that_bear_as_few_the_lowest(self):
        self.assertEqual(on([4, 1, 1, 4, 1, 1, 4], narrowest(2)), [2, 2])
        self.assertEqual(on([5] * 11, narrowest(4)), [20, 1])
        self.assertEqual(on([2, 0, 1, 0], narrowest(1)), [0, 2])

    def test_there_is_no_stretch(self):
        self.assertEqual(on(ORDINARY, narrowest(5)), [7, 1])
        for leap in (6, 7, 12):
            self.assertEqual(on(ORDINARY, narrowest(leap)), [-8])
        self.assertEqual(on([1] * 11, narrowest(12)), [-8])


class Fewest(unittest.TestCase):
    def test_ordinary(self):
        self.assertEqual(on(ORDINARY, fewest(2)), [2, 2, 4])
        self.assertEqual(on(ORDINARY, fewest(3)), [2, 2, 5])
        self.assertEqual(on(ORDINARY, fewest(4)), [1, 4])
        self.assertEqual(on(ORDINARY, fewest(5)), [1, 5])

    def test_a_step_on_every_place(self):
        self.assertEqual(on([1] * 11, fewest(1)), [11] + list(range(1, 12)))

    def test_a_stone_that_bears_none_is_passed(self):
        self.assertEqual(on([1, 0, 1, 0, 1], fewest(2)), [3, 1, 3, 5])
        self.assertEqual(on([1, 1, 0, 1, 1, 0, 1], fewest(3)), [2, 2, 5])

    def test_the_far_bank_is_taken_when_it_is_near_enough(self):
        self.assertEqual(on([1, 1, 1], fewest(3)), [1, 3])
        self.assertEqual(on([1, 1, 1], fewest(4)), [0])
        self.assertEqual(on([0, 0, 0], fewest(12)), [0])
        self.assertEqual(on([0] * 11, fewest(12)), [0])

    def test_one_cannot_get_over(self):
        self.assertEqual(on(ORDINARY, fewest(1)), [-6])
        self.assertEqual(on([0], fewest(1)), [-6])
        self.assertEqual(on([0, 0, 5, 5], fewest(2)), [-6])
        self.assertEqual(on([5, 5, 0, 0], fewest(2)), [-6])


class Plan(unittest.TestCase):
    def test_ordinary(self):
        self.assertEqual(on(ORDINARY, plan(2, 1)), [3, 1, 2, 4])
        self.assertEqual(on(ORDINARY, plan(2, 2)), [3, 1, 2, 4, 2, 2, 4])
        self.assertEqual(on(ORDINARY, plan(3, 3)), [2, 1, 4, 2, 2, 4, 2, 2, 4])

    def test_a_place_is_dealt_at_most_once_to_each(self):
        self.assertEqual(on([5, 5], plan(1, 2)), [2, 1, 2, 2, 1, 2])
        self.assertEqual(on([5, 1, 1], plan(2, 2)), [2, 1, 2, 2, 1, 3])

    def test_what_is_left_over_at_the_rows_end_is_dealt_too(self):
        self.assertEqual(on([2, 0, 3], plan(2, 2)), [2, 1, 3, 2, 1, 3])
        self.assertEqual(on([1, 1, 1], plan(2, 2)), [2, 1, 3, 1, 2])

    def test_nobody_steps_behind_a_place_that_is_near_enough(self):
        self.assertEqual(on([1, 1, 1], plan(2, 1)), [2, 1, 2])
        self.assertEqual(on([1, 0, 1], plan(2, 1)), [2, 1, 3])

    def test_twenty_people(self):
        wanted = [3, 1, 5, 9] * 5 + [3, 2, 6, 10] * 5 + [3, 3, 7, 11] * 5 + [2, 4, 8] * 5
        self.assertEqual(on([5] * 11, plan(4, 20)), wanted)

    def test_where_there_is_no_stretch_nobody_steps(self):
        self.assertEqual(on(ORDINARY, plan(6, 20)), [0] * 20)
        self.assertEqual(on([5] * 11, plan(12, 3)), [0] * 3)
        self.assertEqual(on([0], plan(2, 1)), [0])

    def test_so_many_cannot(self):
        self.assertEqual(on(ORDINARY, plan(1, 1)), [-6])
        self.assertEqual(on(ORDINARY, plan(2, 3)), [-6])
        self.assertNotEqual(on([5] * 11, plan(3, 15)), [-6])
        self.assertEqual(on([5] * 11, plan(3, 16)), [-6])


if __name__ == "__main__":
    unittest.main()
