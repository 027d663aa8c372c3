"""Point 4: keep, changed."""

import unittest
from fractions import Fraction

from asking import (
    LINES, all_one, ask, asked_behind, begin, changed, filled, found, keep, last, line, lines_asked, lines_told, put,
    puts, squares, told, turn, turned, very_different, wake,
)


def changes(before, now):
    """What changed answers: the lines that carry something else now, and what each carried before."""
    answer = [0]
    for k, (old, new) in enumerate(zip(before, now)):
        least = Fraction(*old)
        if least != Fraction(*new):
            answer[0] += 1
            answer.extend([k, least.numerator, least.denominator])
    return answer


class Keep(unittest.TestCase):
    def test_how_wide(self):
        for n, carried in squares():
            self.assertEqual(last(*filled(n, carried), keep()), [n])
            self.assertEqual(asked_behind(filled(n, carried), [keep(), turn(), keep()]), [[n], [0], [n]])

    def test_keeping_changes_no_line(self):
        for n, carried in squares():
            self.assertEqual(asked_behind(filled(n, carried) + [keep()], lines_asked(n)), lines_told(n, carried))

    def test_the_table_as_it_is_now(self):
        given = ask(begin(1), put(0, 2, 1), keep(), put(0, 3, 1), changed(), keep(), changed(), put(0, 2, 1), changed())
        self.assertEqual(given[4::2], [[1, 0, 2, 1], [0], [1, 0, 3, 1]])

    def test_the_later_one_is_kept(self):
        given = ask(begin(1), keep(), begin(2), keep(), put(4, 7, 3), changed(), begin(1), changed())
        self.assertEqual(given, [[4], [1], [12], [2], [0, 1, 1], [1, 4, 1, 1], [4], [-33]])


class Changed(unittest.TestCase):
    def test_in_no_line(self):
        for n, carried in squares():
            self.assertEqual(asked_behind(filled(n, carried), [keep(), changed(), changed()]), [[n], [0], [0]])

    def test_set_to_what_it_was(self):
        given = ask(
            begin(2), put(3, 2, 4), keep(), put(3, 1, 2), changed(), put(3, 50, 99), changed(), put(3, 49, 98),
            changed(),
        )
        self.assertEqual(given[4::2], [[0], [1, 3, 1, 2], [0]])

    def test_in_every_single_line(self):
        for n in (1, 2, 3):
            for k in range(len(LINES[n])):
                for a, b in ((99, 1), (1, 99), (99, 98)):
                    self.assertEqual(last(begin(n), keep(), put(k, a, b), changed()), [1, k, 1, 1])
                    self.assertEqual(last(begin(n), put(k, a, b), keep(), put(k, 1, 1), changed()), [1, k, a, b])

    def test_in_every_line(self):
        for n, carried in squares():
            now = [(b + 1, a) if Fraction(b + 1, a) != Fraction(a, b) else (a + 2, b) for a, b in carried]
            now = [(a, b) if a <= 99 else (1, 3) for a, b in now]
            given = last(*filled(n, carried), keep(), *puts(now), changed())
            self.assertEqual(given, changes(carried, now))
            self.assertEqual(given[0], len(carried))

    def test_in_some_lines_rising(self):
        for n, carried in squares():
            now = list(carried)
            for k in range(len(now) - 1, -1, -3):
                now[k] = (67, 71)
            behind = [put(k, *now[k]) for k in range(len(now) - 1, -1, -3)]
            given = last(*filled(n, carried), keep(), *behind, changed())
            self.assertEqual(given, changes(carried, now))
            self.assertEqual(given[0], len(behind))

    def test_the_middle_lines_three_wide(self):
        for k in (5, 6, 17, 18):
            carried = very_different(3)
            given = last(*filled(3, carried), keep(), put(k, 13, 17), changed())
            self.assertEqual(given, [1, k, Fraction(*carried[k]).numerator, Fraction(*carried[k]).denominator])

    def test_kept_turned_turned_on(self):
        for n, carried in squares():
            once = turned(n, carried)
            twice = turned(n, once)
            thrice = turned(n, twice)
            asked = [keep(), turn(), changed(), turn(), changed(), turn(), changed(), turn(), changed()]
            self.assertEqual(asked_behind(filled(n, carried), asked)[2::2], [
                changes(carried, once), changes(carried, twice), changes(carried, thrice), [0],
            ])

    def test_turned_when_it_is_alike_all_round(self):
        for n in (1, 2, 3):
            self.assertEqual(last(begin(n), keep(), turn(), changed()), [0])

    def test_turned_and_then_kept(self):
        for n, carried in squares():
            asked = [turn(), keep(), changed(), turn(), changed()]
            once = turned(n, carried)
            self.assertEqual(asked_behind(filled(n, carried), asked)[2::2], [[0], changes(once, turned(n, once))])

    def test_begun_anew_as_wide(self):
        for n, carried in squares():
            given = asked_behind(filled(n, carried), [keep(), begin(n), changed()])
            self.assertEqual(given, [[n], [len(carried)], changes(carried, all_one(n))])

    def test_begun_anew_as_wide_and_filled_alike(self):
        for n, carried in squares():
            self.assertEqual(last(*filled(n, carried), keep(), *filled(n, carried), changed()), [0])

    def test_none_is_kept(self):
        for n, carried in squares():
            given = asked_behind(filled(n, carried), [changed(), found(), wake(0, 0), turn(), begin(n), changed()])
            self.assertEqual((given[0], given[-1]), ([-6], [-6]))

    def test_none_is_kept_by_a_refused_keep(self):
        self.assertEqual(ask(keep(), changed(), begin(0), keep(), begin(3), changed())[-1], [-6])

    def test_of_another_width(self):
        for n in (1, 2, 3):
            for other in (1, 2, 3):
                if other != n:
                    given = ask(begin(n), keep(), begin(other), changed(), put(0, 2, 1), changed(), begin(n), changed())
                    self.assertEqual([given[3], given[5], given[7]], [[-33], [-33], [0]])

    def test_of_another_width_it_stays_kept(self):
        for n, carried in squares():
            other = 1 + n % 3
            given = asked_behind(filled(n, carried), [keep(), begin(other), changed(), begin(n), changed()])
            self.assertEqual(given[2::2], [[-33], changes(carried, all_one(n))])

    def test_a_refused_begin_keeps_it_too(self):
        given = ask(begin(2), keep(), begin(4), begin(0), changed(), put(1, 2, 3), changed())
        self.assertEqual([given[4], given[6]], [[0], [1, 1, 1, 1]])

    def test_asking_changes_nothing(self):
        between = [line(1), found(), told(1, 4, [1] * 6)]
        given = ask(begin(2), keep(), put(1, 2, 9), changed(), changed(), *between, changed())
        self.assertEqual([given[3], given[4], given[8]], [[1, 1, 1, 1]] * 3)
        self.assertEqual(given[5], [0, 8, 9, 2, 9])


if __name__ == "__main__":
    unittest.main()
