"""Points 9 and 10: mend and do."""

import itertools
import unittest

from lines import begin, cross, do, go, lay, look, looked, mend, most, on, plan, told

ORDINARY = [1, 2, 0, 3, 1]

# A river, a leap, people, and how many steps are laid at each place for them.
LAID = [
    (ORDINARY, 2, 3, [0, 0, 1, 0, 0]),
    (ORDINARY, 2, 4, [0, 1, 1, 0, 0]),
    (ORDINARY, 3, 4, [0, 0, 1, 0, 0]),
    # Steps are missing in several stretches, and what was laid for one counts for the next.
    ([0, 0, 0, 0], 2, 3, [0, 3, 0, 3]),
    ([0, 0, 0, 0, 0, 0], 2, 1, [0, 1, 0, 1, 0, 1]),
    ([1, 0, 0, 0, 2, 0, 0, 0, 1], 3, 2, [0, 0, 1, 1, 0, 0, 0, 2, 0]),
    # The last place cannot be laid on any more, or not so often.
    ([0, 5, 0], 2, 7, [2, 0, 2]),
    ([0, 3], 2, 7, [2, 2]),
    ([0, 0, 5, 5, 0], 3, 12, [2, 5, 0, 0, 2]),
    ([0, 4, 5, 0], 3, 12, [2, 1, 0, 2]),
    # Each place must bear 5.
    (ORDINARY, 2, 10, [4, 3, 5, 2, 4]),
    (ORDINARY, 1, 5, [4, 3, 5, 2, 4]),
    ([0] * 11, 4, 20, [5] * 11),
    ([0] * 11, 3, 15, [5] * 11),
    # One place and eleven, one and twenty people, a leap of 1, of 11 and of 12.
    ([0], 1, 1, [1]),
    ([0], 1, 5, [5]),
    ([4], 1, 5, [1]),
    ([0] * 11, 1, 1, [1] * 11),
    ([0] * 11, 11, 1, [0] * 10 + [1]),
    ([0] * 11, 11, 20, [0] * 7 + [5] * 4),
    ([0] * 11, 12, 20, [0] * 11),
    ([0, 5, 5, 5, 0, 0, 0, 0, 0, 0, 0], 11, 20, [0] * 10 + [5]),
    # Nothing is missing.
    (ORDINARY, 2, 2, [0] * 5),
    (ORDINARY, 2, 1, [0] * 5),
    (ORDINARY, 5, 7, [0] * 5),
    ([5] * 11, 4, 20, [0] * 11),
    ([5], 1, 5, [0]),
    # A leap is as far as the far bank, or further.
    (ORDINARY, 6, 20, [0] * 5),
    (ORDINARY, 7, 20, [0] * 5),
    (ORDINARY, 12, 20, [0] * 5),
    ([0], 2, 20, [0]),
]

# A river, a leap and people that are too many, even if each place bore 5.
TOO_MANY = [
    (ORDINARY, 1, 6), (ORDINARY, 2, 11), (ORDINARY, 3, 16), (ORDINARY, 1, 20),
    ([5] * 11, 1, 6), ([5] * 11, 3, 16), ([5] * 11, 3, 20),
    ([0], 1, 6), ([5], 1, 6), ([5, 5], 2, 11), ([5, 5, 5], 3, 20),
]

WRONG = [(0, 1), (13, 1), (20, 1), (2, 0), (2, 21), (2, 40), (12, 0), (12, 21), (0, 0), (20, 40)]


def laid_one_by_one(bears, leap, people):
    """What is laid at each place, by looking ahead of each single step for where it goes."""
    laid = {place: 0 for place in range(1, len(bears) + 1)}
    for first in range(1, len(bears) - leap + 2):
        stretch = range(first, first + leap)
        while sum(bears[place - 1] + laid[place] for place in stretch) < people:
            laid[max(place for place in stretch if bears[place - 1] + laid[place] < 5)] += 1
    return list(laid.values())


class Mend(unittest.TestCase):
    def test_how_many_and_at_each_place_how_many(self):
        for bears, leap, people, laid in LAID:
            self.assertEqual(on(bears, mend(leap, people)), [sum(laid)] + laid, (bears, leap, people))

    def test_nothing_is_laid(self):
        for bears, leap, people, laid in LAID:
            self.assertEqual(looked(begin(bears), mend(leap, people)), [0, 0, 0, len(bears)] + list(bears))

    def test_it_answers_the_same_again(self):
        for bears, leap, people, laid in LAID:
            answered = told(begin(bears), mend(leap, people), mend(leap, people))
            self.assertEqual(answered[1], answered[2])

    def test_it_speaks_of_what_the_stones_bear_now(self):
        calls = [begin([1, 1, 1]), mend(1, 1), go(1, [1, 2, 3]), mend(1, 1), lay(2, 2), mend(1, 1), mend(2, 2)]
        self.assertEqual(told(*calls)[1:], [[0, 0, 0, 0], [3], [3, 1, 1, 1], [2], [2, 1, 0, 1], [0, 0, 0, 0]])

    def test_on_many_rivers_step_by_step(self):
        rivers = list(itertools.product((0, 2, 5), repeat=4)) + [[5, 4, 0, 3, 2, 5, 0, 0, 5, 1, 4], [1, 0] * 5 + [2]]
        for bears in rivers:
            for leap in range(1, 13):
                for people in (1, 2, 3, 5, 8, 13, 20):
                    wanted = [-6]
                    if leap > len(bears) or people <= 5 * leap:
                        laid = laid_one_by_one(bears, leap, people)
                        wanted = [sum(laid)] + laid
                    self.assertEqual(on(bears, mend(leap, people)), wanted, (bears, leap, people))


class Do(unittest.TestCase):
    def test_how_many_steps(self):
        for bears, leap, people, laid in LAID:
            self.assertEqual(on(bears, do(leap, people)), [sum(laid)], (bears, leap, people))

    def test_they_are_laid(self):
        for bears, leap, people, laid in LAID:
            borne = [before + more for before, more in zip(bears, laid)]
            self.assertEqual(looked(begin(bears), do(leap, people)), [0, 0, sum(laid), len(bears)] + borne)

    def test_just_what_mend_told_right_ahead_of_it_is_laid(self):
        for bears in itertools.product((0, 1, 4, 5), repeat=4):
            for leap, people in itertools.product((1, 2, 3, 4, 5), (1, 3, 5, 9, 10, 17, 20)):
                ahead, done, behind = told(begin(bears), mend(leap, people), do(leap, people), look())[1:]
                self.assertEqual(done, ahead[:1])
                if done == [-6]:
                    self.assertEqual(behind, [0, 0, 0, 4] + list(bears))
                    continue
                self.assertEqual(behind, [0, 0] + done + [4] + [b + more for b, more in zip(bears, ahead[1:])])

    def test_so_many_can_get_over_behind_it(self):
        for bears, leap, people, laid in LAID:
            many, paths, crossed = told(begin(bears), do(leap, people), most(leap), plan(leap, people),
                                        cross(leap, people))[2:]
            self.assertTrue(many == [-8] or many[0] >= people, (bears, leap, people))
            self.assertNotEqual(paths, [-6])
            self.assertGreaterEqual(crossed[0], 0)

    def test_nothing_is_missing_behind_it(self):
        for bears, leap, people, laid in LAID:
            again = told(begin(bears), do(leap, people), mend(leap, people), do(leap, people), look())[2:]
            self.assertEqual(again[:2], [[0] * (len(bears) + 1), [0]])
            self.assertEqual(again[2][2], sum(laid))


class Refused(unittest.TestCase):
    def test_too_many_even_if_each_place_bore_5(self):
        for bears, leap, people in TOO_MANY:
            self.assertEqual(on(bears, mend(leap, people)), [-6])
            self.assertEqual(on(bears, do(leap, people)), [-6])

    def test_a_leap_or_people_that_do_not_fit(self):
        for bears in (ORDINARY, [5] * 11, [0]):
            for leap, people in WRONG:
                self.assertEqual(on(bears, mend(leap, people)), [-1])
                self.assertEqual(on(bears, do(leap, people)), [-1])

    def test_1_counts_ahead_of_6(self):
        for leap, people in ((1, 21), (2, 40), (0, 20)):
            self.assertEqual(on([0] * 11, mend(leap, people)), [-1])
            self.assertEqual(on([0] * 11, do(leap, people)), [-1])

    def test_nothing_changes(self):
        for leap, people in [(1, 6), (2, 11), (3, 16)] + WRONG:
            for call in (mend(leap, people), do(leap, people)):
                self.assertEqual(looked(begin(ORDINARY), call), [0, 0, 0, 5] + ORDINARY)
                self.assertEqual(looked(begin(ORDINARY), do(2, 3), call), [0, 0, 1, 5, 1, 2, 1, 3, 1])


if __name__ == "__main__":
    unittest.main()
