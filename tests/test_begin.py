"""Point 1, and what the document says of a line's beginning."""

import unittest

from lines import (
    begin, cross, do, fewest, go, lay, look, look_round, looked, mend, most, narrowest, on, plan, seen, told
)


class Begin(unittest.TestCase):
    def test_an_ordinary_river_is_taken(self):
        self.assertEqual(told(begin([1, 2, 0, 3, 1])), [[0]])

    def test_one_place_and_eleven_places_are_taken(self):
        self.assertEqual(told(begin([3]), most(1)), [[0], [3]])
        self.assertEqual(told(begin([1] * 11), most(11)), [[0], [11]])

    def test_stones_that_bear_0_and_5_are_taken(self):
        self.assertEqual(told(begin([0]), most(1)), [[0], [0]])
        self.assertEqual(told(begin([5, 0, 5]), narrowest(2)), [[0], [5, 1]])

    def test_no_places_are_refused(self):
        self.assertEqual(told(begin([])), [[-1]])

    def test_more_than_11_places_are_refused(self):
        for places in (12, 13, 14):
            self.assertEqual(told(begin([1] * places)), [[-1]])

    def test_a_place_that_bears_more_than_5_is_refused(self):
        for borne in (6, 7, 8, 9):
            self.assertEqual(told(begin([borne])), [[-1]])
            self.assertEqual(told(begin([borne, 1, 1])), [[-1]])
            self.assertEqual(told(begin([1, borne, 1])), [[-1]])
            self.assertEqual(told(begin([1, 1, borne])), [[-1]])

    def test_a_river_takes_the_place_of_the_one_before(self):
        self.assertEqual(seen(begin([5] * 11), begin([1, 2, 1])), seen(begin([1, 2, 1])))
        self.assertEqual(seen(begin([1, 2]), go(2, [2]), begin([1, 2])), seen(begin([1, 2])))

    def test_a_refused_begin_leaves_the_river_as_it_was(self):
        for wrong in ([], [1] * 12, [6], [0, 0, 9]):
            self.assertEqual(seen(begin([2, 1, 3]), begin(wrong)), seen(begin([2, 1, 3])))
            self.assertEqual(looked(begin([2, 1, 3]), begin(wrong)), [0, 0, 0, 3, 2, 1, 3])
            self.assertEqual(
                seen(begin([2, 1, 3]), go(2, [1, 3]), begin(wrong)), seen(begin([1, 1, 2]))
            )


class NoRiver(unittest.TestCase):
    calls = [
        most(2), narrowest(2), fewest(2), plan(2, 1), go(2, [1, 2]), go(2, []),
        cross(2, 1), lay(1, 1), mend(2, 1), do(2, 1), look(),
    ]
    wrong = [
        most(0), narrowest(13), fewest(20), plan(0, 1), plan(1, 0), go(0, []), go(2, [2, 1]),
        cross(0, 1), cross(1, 0), lay(0, 1), lay(1, 0), lay(1, 9), mend(13, 1), mend(1, 21), do(20, 1), do(1, 40),
    ]

    def test_each_call_without_a_river_answers_9(self):
        for call in self.calls:
            self.assertEqual(told(call), [[-9]])

    def test_9_counts_ahead_of_1(self):
        for call in self.wrong:
            self.assertEqual(told(call), [[-9]])

    def test_a_begin_refused_at_the_beginning_brings_no_river(self):
        for refused in ([], [1] * 12, [6]):
            for call in self.calls + self.wrong:
                self.assertEqual(told(begin(refused), call), [[-1], [-9]])

    def test_the_river_is_there_from_its_begin_on(self):
        calls = self.calls + [begin([1, 1])] + self.calls
        answered = told(*calls)
        self.assertEqual(answered[:11], [[-9]] * 11)
        self.assertEqual(answered[11:18], [[0], [2], [2, 1], [1, 2], [1, 1], [2], [-7, 3]])
        self.assertEqual(answered[18:], [[-6], [1], [0, 0, 0], [0], [1, 2, 1, 2, 1, 0]])

    def test_what_was_asked_without_a_river_leaves_no_trace(self):
        self.assertEqual(looked(*self.calls, begin([1, 1])), [0, 0, 0, 2, 1, 1])
        self.assertEqual(looked(begin([6]), *self.calls, begin([1, 1])), [0, 0, 0, 2, 1, 1])

    def test_a_river_of_another_line_is_not_there(self):
        told(begin([1, 1]))
        self.assertEqual(told(most(1)), [[-9]])


class Handed(unittest.TestCase):
    """-1 of all that a leap or people are handed to."""

    bears = [1, 2, 0, 3, 1]

    def leap_calls(self, leap):
        return [
            most(leap), narrowest(leap), fewest(leap), plan(leap, 1), go(leap, []),
            cross(leap, 1), mend(leap, 1), do(leap, 1),
        ]

    def people_calls(self, leap, people):
        return [plan(leap, people), cross(leap, people), mend(leap, people), do(leap, people)]

    def test_a_leap_that_is_not_1_to_12_is_refused(self):
        for leap in (0, 13, 14, 20):
            for call in self.leap_calls(leap):
                self.assertEqual(on(self.bears, call), [-1])

    def test_a_leap_of_1_and_of_12_is_not_refused_so(self):
        for leap in (1, 12):
            for call in self.leap_calls(leap):
                self.assertNotEqual(on(self.bears, call), [-1])

    def test_people_that_are_not_1_to_20_are_refused(self):
        for people in (0, 21, 22, 40):
            for call in self.people_calls(2, people) + self.people_calls(12, people):
                self.assertEqual(on(self.bears, call), [-1])

    def test_1_and_20_people_are_not_refused_so(self):
        for people in (1, 20):
            for call in self.people_calls(2, people) + self.people_calls(12, people):
                self.assertNotEqual(on(self.bears, call), [-1])

    def test_1_counts_ahead_of_8_6_and_7(self):
        self.assertEqual(on([0], most(13)), [-1])
        self.assertEqual(on([0], narrowest(13)), [-1])
        self.assertEqual(on([0], fewest(0)), [-1])
        self.assertEqual(on([0], plan(1, 21)), [-1])
        self.assertEqual(on([0], plan(0, 1)), [-1])
        self.assertEqual(on([0], go(0, [1])), [-1])

    def test_nothing_changes_by_a_question_or_a_refusal(self):
        refused = [most(0), narrowest(0), fewest(1), plan(2, 3), plan(2, 0), go(0, []), go(2, [1, 3])]
        self.assertEqual(seen(begin(self.bears), *refused), seen(begin(self.bears)))
        self.assertEqual(told(begin(self.bears), *look_round())[1:], seen(begin(self.bears)))


if __name__ == "__main__":
    unittest.main()
