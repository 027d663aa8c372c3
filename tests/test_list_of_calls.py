"""The interface: one list of calls in, one list of answers out, nothing changed and nothing kept."""

import unittest

from asking import (
    LEAST, MOST, ask, begin, changed, flow, found, inside, joined, keep, line, mixed, put, puts, row, seen, told,
    turn, very_different, wake,
)
from edgetold.squares import answers


class Unchangeable(list):
    """A list that fails at every change, so that a change that is taken back shows too."""

    def refuse(self, *given):
        raise AssertionError("what was handed in is changed")

    append = clear = extend = insert = pop = remove = reverse = sort = refuse
    __setitem__ = __delitem__ = __iadd__ = __imul__ = refuse


def every_other_call():
    return [
        put(0, 1, 1), line(0), seen(0, 1), row(0), flow([0] * 4), inside([0] * 4), wake(0, 0), found(),
        told(1, 4, [1] * 6), keep(), changed(), turn(),
    ]


def wrong_calls():
    return [
        put(-1, 0, 100), line(LEAST), seen(7, 7), row(MOST), flow([]), flow([MOST] * 70), inside([]),
        inside([LEAST] * 70), wake(-1, 2), told(0, 0, []), told(4, -1, [-1] * 70),
    ]


def some_lists():
    return [
        joined([begin(1)]),
        joined([begin(0), line(0)]),
        joined([begin(3)] + puts(very_different(3)) + [row(i) for i in range(12)] + [flow([5] * 12)]),
        joined([line(0), begin(2)] + puts(mixed(2)) + [begin(5), inside([1, 2, 3, 4, 5, 6, 7, 8]), seen(3, 3)]),
        joined([begin(3)] + puts(very_different(3)) + [wake(2, 0), wake(1, 1), found(), keep(), turn(), changed()]),
        joined([begin(1), changed(), keep()] + puts(mixed(1)) + [changed(), begin(2), changed(), turn(), wake(3, 0)]),
        joined([begin(2), told(1, 24, [24, 4, 4, 6, 6, 1]), told(1, 24, [24, 4, 4, 6, 6, 2]), told(3, 1, [0] * 66)]),
        joined([begin(1)] + every_other_call() + wrong_calls()),
    ]


class BeforeBegin(unittest.TestCase):
    def test_every_call_alone(self):
        for call in every_other_call() + wrong_calls():
            self.assertEqual(answers(call), [1, -11])

    def test_all_in_one_list_and_a_begin_behind(self):
        calls = every_other_call() + wrong_calls()
        self.assertEqual(ask(*calls, begin(2)), [[-11]] * len(calls) + [[12]])

    def test_a_refused_begin_is_none(self):
        for n in (0, 4, -3, LEAST, MOST):
            calls = every_other_call() + wrong_calls()
            self.assertEqual(ask(begin(n), *calls, begin(n)), [[-22]] + [[-11]] * len(calls) + [[-22]])

    def test_11_comes_ahead_of_every_other_refusal(self):
        given = ask(
            put(-1, 0, 0), seen(-1, -1), line(-1), row(-1), flow([]), inside([]), wake(-1, -1), told(0, 0, []),
            told(1, 1, [0] * 6), changed(), begin(1),
        )
        self.assertEqual(given, [[-11]] * 10 + [[4]])

    def test_what_was_refused_is_not_done_later(self):
        self.assertEqual(ask(put(0, 3, 2), begin(1), line(0)), [[-11], [4], [0, 3, 4, 1, 1]])
        self.assertEqual(ask(keep(), begin(1), changed()), [[-11], [4], [-6]])


class HowAnswersLie(unittest.TestCase):
    def test_each_answer_has_its_count_before_it(self):
        calls = joined([begin(1), put(0, 2, 4), line(0), seen(0, 0), begin(9), inside([0] * 4), row(0)])
        self.assertEqual(answers(calls), [
            1, 4, 3, 0, 1, 1, 5, 0, 3, 4, 1, 2, 1, -22, 1, -22, 3, 1, 0, 1, 9, 4, 0, 1, 2, 7, 2, 7, 1, 7,
        ])

    def test_each_of_the_later_answers_too(self):
        calls = joined([
            begin(1), put(0, 2, 4), wake(0, 0), found(), told(1, 4, [1] * 6), keep(), changed(), turn(), changed(),
        ])
        self.assertEqual(answers(calls), [
            1, 4, 3, 0, 1, 1, 9, 4, 1, 1, 0, 1, 0, 1, -2, 1, 9, 4, 1, 2, 1, 1, 1, 1, 1, 1, 9, 4, 1, 1, 1, 1, 1, 1, 1, 1,
            1, 1, 1, 0, 1, 0, 7, 2, 0, 1, 2, 2, 1, 1,
        ])

    def test_the_call_behind_a_table_is_answered(self):
        given = ask(
            begin(1), told(1, 1, []), told(1, 1, [7] * 70), told(3, 0, [0] * 66), told(2, 1, [0] * 28), line(1),
            told(1, 4, [1] * 6), turn(),
        )
        self.assertEqual(given, [
            [4], [-22], [-22], [-22], [-33], [0, 4, 1, 1, 1], [4] + [1, 1] * 4, [0],
        ])

    def test_every_call_is_answered(self):
        calls = every_other_call() + wrong_calls()
        given = ask(begin(1), *calls)
        self.assertEqual(len(given), 1 + len(calls))
        self.assertTrue(all(answer[0] >= 0 for answer in given[:1 + len(every_other_call())]))
        self.assertTrue(all(answer[0] in (-2, -22) for answer in given[1 + len(every_other_call()):]))

    def test_whole_numbers_in_a_list(self):
        for calls in some_lists():
            given = answers(calls)
            self.assertIs(type(given), list)
            self.assertEqual({type(number) for number in given}, {int})

    def test_sixty_calls(self):
        calls = [begin(3)] + [flow([1000 - i] * 12) for i in range(59)]
        self.assertEqual(ask(*calls), [[24]] + [[12] + [0, 1] * 12] * 59)


class NothingChangedNothingKept(unittest.TestCase):
    def test_what_is_handed_in_stays(self):
        for calls in some_lists():
            self.assertEqual(answers(Unchangeable(calls)), answers(list(calls)))
            handed = list(calls)
            answers(handed)
            self.assertEqual(handed, calls)

    def test_a_second_time_is_as_the_first(self):
        first = [answers(calls) for calls in some_lists()]
        second = [answers(calls) for calls in reversed(some_lists())]
        self.assertEqual(first, second[::-1])

    def test_a_begin_is_forgotten(self):
        answers(begin(3) + put(0, 5, 6))
        self.assertEqual(answers(line(0)), [1, -11])
        self.assertEqual(answers(begin(3) + line(0)), [1, 24, 5, 0, 9, 12, 1, 1])

    def test_a_table_that_was_kept_is_forgotten(self):
        answers(begin(2) + keep())
        self.assertEqual(answers(begin(2) + changed()), [1, 12, 1, -6])

    def test_an_answer_changed_outside_changes_no_other(self):
        given = answers(begin(1) + row(0))
        given.clear()
        self.assertEqual(answers(begin(1) + row(0)), [1, 4, 9, 4, 0, 1, 1, 4, 1, 4, 1, 4])


if __name__ == "__main__":
    unittest.main()
