"""Point 11: look."""

import unittest

from lines import begin, cross, do, fewest, go, lay, look, looked, mend, most, narrowest, on, plan, told

ORDINARY = [1, 2, 0, 3, 1]
UNTOUCHED = [0, 0, 0, 5] + ORDINARY

BEGUN = [
    begin(ORDINARY), lay(3, 2), go(2, [2, 4]), cross(2, 1), do(2, 2),
]
# The river bears 1 2 2 3 1, then 1 1 2 2 1; the plan is 1, 2, 3, 4; then two are missing in the first stretch.
BEGUN_LOOK = [2, 6, 4, 5, 0, 2, 1, 1, 1]


class Tells(unittest.TestCase):
    def test_a_new_river(self):
        self.assertEqual(on(ORDINARY, look()), UNTOUCHED)
        self.assertEqual(on([0], look()), [0, 0, 0, 1, 0])
        self.assertEqual(on([5], look()), [0, 0, 0, 1, 5])
        self.assertEqual(on([5] * 11, look()), [0, 0, 0, 11] + [5] * 11)

    def test_go_counts_as_one_person_with_their_steps(self):
        self.assertEqual(looked(begin(ORDINARY), go(2, [2, 4])), [1, 2, 0, 5, 1, 1, 0, 2, 1])
        self.assertEqual(looked(begin(ORDINARY), go(2, [2, 4]), go(2, [1, 2, 4])), [2, 5, 0, 5, 0, 0, 0, 1, 1])
        self.assertEqual(looked(begin(ORDINARY), go(6, [])), [1, 0, 0, 5] + ORDINARY)

    def test_cross_counts_its_people_and_their_steps(self):
        self.assertEqual(looked(begin(ORDINARY), cross(2, 2)), [2, 5, 0, 5, 0, 0, 0, 1, 1])
        self.assertEqual(looked(begin(ORDINARY), cross(6, 20)), [20, 0, 0, 5] + ORDINARY)

    def test_lay_counts_its_steps(self):
        self.assertEqual(looked(begin(ORDINARY), lay(2, 3)), [0, 0, 3, 5, 1, 5, 0, 3, 1])
        self.assertEqual(looked(begin(ORDINARY), lay(2, 3), lay(3, 1)), [0, 0, 4, 5, 1, 5, 1, 3, 1])

    def test_do_counts_what_it_lays(self):
        self.assertEqual(looked(begin(ORDINARY), do(2, 4)), [0, 0, 2, 5, 1, 3, 1, 3, 1])
        self.assertEqual(looked(begin(ORDINARY), do(2, 2)), UNTOUCHED)

    def test_all_together(self):
        self.assertEqual(looked(*BEGUN), BEGUN_LOOK)

    def test_steps_laid_again_where_a_stone_sank_count_again(self):
        calls = [begin([0])] + [lay(1, 5), cross(1, 5)] * 20 + [do(1, 4)]
        self.assertEqual(looked(*calls), [100, 100, 104, 1, 4])

    def test_it_tells_the_same_again(self):
        self.assertEqual(told(*BEGUN, look(), look(), look())[len(BEGUN):], [BEGUN_LOOK] * 3)

    def test_what_it_told_is_not_changed_by_what_comes_behind_it(self):
        answered = told(begin([2, 2]), look(), go(1, [1, 2]), look(), lay(1, 4), look())
        self.assertEqual(answered[1], [0, 0, 0, 2, 2, 2])
        self.assertEqual(answered[3], [1, 2, 0, 2, 1, 1])
        self.assertEqual(answered[5], [1, 2, 4, 2, 5, 1])


class ChangesNothing(unittest.TestCase):
    questions = [most(2), narrowest(2), fewest(2), plan(2, 1), mend(2, 4), look()]
    refused = [
        begin([]), begin([1] * 12), begin([6]), begin([1] * 14), begin([0, 9]),
        most(0), most(6), narrowest(13), narrowest(6), fewest(0), fewest(1), plan(0, 1), plan(2, 0), plan(2, 9),
        go(0, []), go(2, [1, 3]), go(2, [4, 2]), go(2, [2, 6]), go(2, [2]), go(2, [2, 2]),
        cross(0, 1), cross(2, 0), cross(2, 9), lay(0, 1), lay(6, 1), lay(2, 0), lay(2, 4),
        mend(0, 1), mend(2, 21), mend(2, 11), do(0, 1), do(2, 21), do(2, 11),
    ]

    def test_questions(self):
        for call in self.questions:
            self.assertEqual(looked(begin(ORDINARY), call), UNTOUCHED)
            self.assertEqual(looked(*BEGUN, call), BEGUN_LOOK)

    def test_refusals(self):
        for call in self.refused:
            self.assertLess(told(begin(ORDINARY), call)[1][0], 0, call)
            self.assertEqual(looked(begin(ORDINARY), call), UNTOUCHED, call)
            self.assertLess(told(*BEGUN, call)[-1][0], 0, call)
            self.assertEqual(looked(*BEGUN, call), BEGUN_LOOK, call)


class SinceBegin(unittest.TestCase):
    def test_a_begin_that_is_taken_sets_it_all_back(self):
        self.assertEqual(looked(*BEGUN, begin(ORDINARY)), UNTOUCHED)
        self.assertEqual(looked(*BEGUN, begin([3, 4])), [0, 0, 0, 2, 3, 4])
        for call in (go(6, []), go(2, [2, 4]), cross(6, 3), cross(2, 2), lay(1, 2), do(2, 3)):
            self.assertEqual(looked(begin(ORDINARY), call, begin([1])), [0, 0, 0, 1, 1])

    def test_what_comes_behind_it_counts(self):
        self.assertEqual(looked(*BEGUN, begin([3, 4]), go(2, [2]), lay(1, 1)), [1, 1, 1, 2, 4, 3])
        self.assertEqual(looked(*BEGUN, *BEGUN), BEGUN_LOOK)

    def test_a_begin_that_is_refused_does_not(self):
        for wrong in ([], [1] * 12, [6], [0, 9]):
            self.assertEqual(looked(*BEGUN, begin(wrong)), BEGUN_LOOK)
            self.assertEqual(looked(*BEGUN, begin(wrong), go(6, [])), [3] + BEGUN_LOOK[1:])


if __name__ == "__main__":
    unittest.main()
