"""What the interface says of steppedover.river.answers."""

import contextlib
import io
import unittest

from lines import begin, cross, do, fewest, go, lay, line_of, look, mend, most, narrowest, plan
from steppedover.river import answers


class Untouchable(list):
    """A list that does not let itself be changed, not for a while either."""

    def refuse(self, *handed, **named):
        raise AssertionError("the list handed in was changed")

    append = clear = extend = insert = pop = remove = reverse = sort = refuse
    __setitem__ = __delitem__ = __iadd__ = __imul__ = refuse


# Twenty calls, all eleven among them, and what is answered to each.
EVERY_CALL = [
    begin([1, 2, 0, 3, 1]),
    most(2),
    narrowest(2),
    fewest(2),
    plan(2, 2),
    go(2, [2, 4]),
    look(),
    mend(2, 3),
    do(2, 3),
    plan(2, 3),
    cross(2, 3),
    look(),
    cross(2, 1),
    lay(4, 5),
    lay(4, 1),
    go(4, [4]),
    go(2, [1]),
    do(5, 21),
    begin([6]),
    look(),
]

EVERY_ANSWER = [
    1, 0,
    1, 2,
    2, 2, 2,
    3, 2, 2, 4,
    7, 3, 1, 2, 4, 2, 2, 4,
    1, 2,
    9, 1, 2, 0, 5, 1, 1, 0, 2, 1,
    6, 2, 0, 1, 1, 0, 0,
    1, 2,
    10, 3, 1, 3, 5, 2, 2, 4, 2, 2, 4,
    1, 7,
    9, 4, 9, 2, 5, 0, 0, 0, 0, 0,
    1, -6,
    1, 5,
    1, -1,
    1, 1,
    2, -6, 1,
    1, -1,
    1, -1,
    9, 5, 10, 7, 5, 0, 0, 0, 4, 0,
]


class Interface(unittest.TestCase):
    def test_calls_and_answers_one_behind_another(self):
        self.assertEqual(answers(line_of(EVERY_CALL)), EVERY_ANSWER)

    def test_as_the_document_writes_them(self):
        self.assertEqual(answers([0, 3, 1, 0, 2, 1, 2, 5, 2, 2, 1, 3, 2, 2]), [1, 0, 1, 1, 1, 2, 2, 0, 1])
        self.assertEqual(answers([4, 2, 1, 5, 2, 3, 1, 2, 3, 0, 0, 3, 1]), [1, -9, 1, -9, 1, -1, 1, -9])
        self.assertEqual(answers([0, 2, 1, 0, 8, 1, 2, 9, 1, 2, 7, 2, 3, 6, 1, 1, 10]),
                         [1, 0, 3, 3, 1, 2, 1, 3, 1, 5, 1, 2, 6, 1, 2, 6, 2, 1, 4])
        self.assertEqual(answers([6, 1, 1, 7, 1, 1, 8, 1, 1, 9, 1, 1, 10]), [1, -9] * 5)

    def test_a_list_of_plain_whole_numbers_is_given_back(self):
        told = answers(line_of(EVERY_CALL))
        self.assertIs(type(told), list)
        self.assertEqual({type(number) for number in told}, {int})

    def test_the_list_handed_in_is_not_changed(self):
        calls = line_of(EVERY_CALL)
        handed = Untouchable(calls)
        self.assertEqual(answers(handed), EVERY_ANSWER)
        self.assertEqual(list(handed), calls)

    def test_nothing_is_kept_from_one_time_to_the_next(self):
        calls = line_of(EVERY_CALL)
        first = answers(calls)
        answers(line_of([begin([5] * 11), go(6, [6]), lay(6, 1), do(1, 5)]))
        self.assertEqual(answers(line_of([look()])), [1, -9])
        first.append(7)
        self.assertEqual(answers(calls), EVERY_ANSWER)
        self.assertEqual(answers(calls), EVERY_ANSWER)

    def test_nothing_is_printed(self):
        out, err = io.StringIO(), io.StringIO()
        with contextlib.redirect_stdout(out), contextlib.redirect_stderr(err):
            answers(line_of(EVERY_CALL))
        self.assertEqual((out.getvalue(), err.getvalue()), ("", ""))

    def test_sixty_calls(self):
        calls = EVERY_CALL * 3
        self.assertEqual((len(calls), {call[0] for call in calls}), (60, set(range(11))))
        self.assertEqual(answers(line_of(calls)), EVERY_ANSWER * 3)

    def test_sixty_calls_alike(self):
        told = answers(line_of([begin([5] * 11)] + [plan(4, 20)] * 59))
        self.assertEqual(told[:2], [1, 0])
        self.assertEqual(len(told), 2 + 59 * (1 + 15 * 4 + 5 * 3))
        told = answers(line_of([begin([5] * 11)] + [go(1, list(range(1, 15)))] * 59))
        self.assertEqual(told, [1, 0] + [1, -1] * 59)


if __name__ == "__main__":
    unittest.main()
