"""Point 3: found, told."""

import unittest
from fractions import Fraction

import reckoned
from asking import (
    LEAST, LINES, MOST, all_one, all_told, ask, asked_behind, begin, changed, filled, found, keep, last, line,
    lines_asked, lines_told, mixed, put, row, squares, told, turn, turned, very_different,
)

# Squares of lines that carry very different fractions, whose tables' numbers are still small enough to be told.
FAR_APART = [
    (1, [(99, 1), (1, 99), (97, 2), (3, 98)]),
    (1, [(1, 99), (1, 99), (99, 1), (1, 99)]),
    (2, [(12, 1), (1, 15), (61, 1), (1, 94), (5, 5), (34, 1), (87, 1), (1, 2), (2, 4), (6, 3), (83, 1), (9, 9)]),
    (2, [(97, 1), (3, 3), (1, 78), (1, 86), (9, 1), (4, 4), (3, 3), (8, 8), (91, 1), (4, 4), (1, 29), (8, 8)]),
    (3, [
        (1, 2), (8, 3), (5, 4), (4, 1), (5, 3), (20, 1), (3, 2), (5, 2), (1, 12), (2, 1), (6, 1), (1, 1),
        (1, 6), (5, 6), (10, 3), (5, 12), (1, 3), (1, 1), (3, 1), (1, 1), (2, 3), (2, 1), (3, 1), (5, 1),
    ]),
    (3, [
        (4, 1), (3, 1), (5, 1), (5, 6), (1, 1), (1, 1), (3, 4), (1, 4), (1, 6), (3, 2), (9, 1), (6, 1),
        (5, 4), (4, 3), (2, 1), (8, 1), (5, 2), (1, 2), (9, 4), (3, 4), (1, 3), (1, 2), (3, 1), (2, 3),
    ]),
    (3, [
        (8, 8), (8, 2), (5, 5), (97, 1), (1, 1), (7, 7), (1, 6), (2, 1), (3, 3), (3, 9), (2, 8), (9, 3),
        (73, 1), (6, 9), (1, 6), (1, 1), (8, 8), (2, 4), (2, 2), (3, 9), (7, 7), (5, 5), (1, 1), (7, 7),
    ]),
]


def tellable():
    """Squares, (n, what their lines carry), whose tables can be handed to told."""
    some = [(n, all_one(n)) for n in (1, 2, 3)] + [(1, mixed(1)), (1, very_different(1))] + FAR_APART
    for n in (1, 2, 3):
        for k in range(len(LINES[n])):
            for a, b in ((99, 1), (1, 99), (98, 97)):
                carried = all_one(n)
                carried[k] = (a, b)
                some.append((n, carried))
    return some


def handed(n, carried, times=1):
    """The call of told with the table of a square, its numbers brought over one e."""
    e, numbers = reckoned.over_one(reckoned.table(n, carried))
    assert max([e] + numbers) * times <= MOST, (n, e)
    return told(n, e * times, [number * times for number in numbers])


def table_length(n):
    return 2 * n * (4 * n - 1)


def number_at(n, i, j):
    """Where in told's call the number for the places i and j stands, i the lesser."""
    pairs = [(one, other) for one in range(4 * n) for other in range(one + 1, 4 * n)]
    return 4 + pairs.index((i, j))


def with_number(call, at, number):
    return call[:at] + [number] + call[at + 1:]


class Found(unittest.TestCase):
    def test_what_each_line_carries(self):
        for n, carried in squares() + FAR_APART:
            self.assertEqual(last(*filled(n, carried), found()), all_told(carried))

    def test_every_single_line(self):
        for n in (1, 2, 3):
            for k in range(len(LINES[n])):
                for a, b in ((99, 1), (1, 99), (99, 98)):
                    carried = all_one(n)
                    carried[k] = (a, b)
                    self.assertEqual(last(begin(n), put(k, a, b), found()), all_told(carried))

    def test_behind_set_and_turn(self):
        for n, carried in squares():
            once = turned(n, carried)
            again = [(31, 37)] + once[1:]
            asked = [found(), turn(), found(), put(0, 31, 37), found(), turn(), found()]
            given = asked_behind(filled(n, carried), asked)
            self.assertEqual(given[0::2], [
                all_told(carried), all_told(once), all_told(again), all_told(turned(n, again)),
            ])

    def test_behind_another_begin(self):
        given = asked_behind(filled(3, very_different(3)), [begin(2), found(), begin(1), found(), begin(3), found()])
        self.assertEqual(given[1::2], [all_told(all_one(n)) for n in (2, 1, 3)])

    def test_the_middle_lines_three_wide(self):
        for k in (5, 6, 17, 18):
            carried = very_different(3)
            for a, b in ((1, 99), (99, 1), (50, 51)):
                carried[k] = (a, b)
                self.assertEqual(last(*filled(3, carried), found()), all_told(carried))

    def test_finding_changes_nothing(self):
        for n, carried in squares():
            given = asked_behind(filled(n, carried), [found()] + lines_asked(n) + [found()])
            self.assertEqual(given[0], given[-1])
            self.assertEqual(given[1:-1], lines_told(n, carried))


class Told(unittest.TestCase):
    def test_the_table_of_a_square_tells_its_lines(self):
        for n, carried in tellable():
            self.assertEqual(last(begin(1), handed(n, carried)), all_told(carried), (n, carried))

    def test_the_table_of_a_turned_square(self):
        for n, carried in FAR_APART:
            self.assertEqual(last(begin(1), handed(n, turned(n, carried))), all_told(turned(n, carried)))

    def test_the_table_that_row_answers(self):
        for n, carried in [(1, mixed(1))] + FAR_APART:
            rows = asked_behind(filled(n, carried), [row(i) for i in range(4 * n)])
            seen = [
                Fraction(rows[i][1 + 2 * j], rows[i][2 + 2 * j]) for i in range(4 * n) for j in range(i + 1, 4 * n)
            ]
            e, numbers = reckoned.over_one(seen)
            self.assertEqual(last(begin(2), told(n, e, numbers)), all_told(carried))

    def test_by_hand(self):
        self.assertEqual(last(begin(1), told(1, 4, [1] * 6)), [4] + [1, 1] * 4)
        # West 1 by 2, east 3, north 2, south 1 by 2: six all together.
        self.assertEqual(last(begin(1), told(1, 24, [24, 4, 4, 6, 6, 1])), [4, 1, 2, 3, 1, 2, 1, 1, 2])
        two = [
            2, 2, 1, 2, 1, 7, 2,
            7, 2, 1, 2, 2, 1,
            2, 1, 2, 2, 1,
            2, 7, 1, 2,
            2, 2, 7,
            1, 2,
            2,
        ]
        self.assertEqual(last(begin(1), told(2, 24, two)), [12] + [1, 1] * 12)

    def test_more_over_more_is_the_same(self):
        for n in (1, 2, 3):
            for times in (2, 7, 1000):
                self.assertEqual(last(begin(1), handed(n, all_one(n), times)), all_told(all_one(n)))

    def test_over_less_each_line_carries_more(self):
        for n in (1, 2, 3):
            e, numbers = reckoned.over_one(reckoned.table(n, all_one(n)))
            for less in (1, 3, MOST):
                self.assertEqual(last(begin(1), told(n, less, numbers)), all_told([(e, less)] * len(LINES[n])))

    def test_the_greatest_numbers(self):
        self.assertEqual(last(begin(1), told(1, 1, [MOST] * 6)), [4] + [4 * MOST, 1] * 4)
        self.assertEqual(last(begin(1), told(1, MOST, [MOST] * 6)), [4] + [4, 1] * 4)
        self.assertEqual(last(begin(1), told(1, MOST, [1] * 6)), [4] + [4, MOST] * 4)

    def test_the_square_that_is_there_stays_as_it_is(self):
        for n, carried in squares():
            for other in (1, 2, 3):
                wrong = told(other, 1, [0] * table_length(other))
                asked = [handed(other, all_one(other)), wrong, told(other, 0, [])] + lines_asked(n) + [found(), row(0)]
                given = asked_behind(filled(n, carried), asked)
                self.assertEqual(given[:3], [all_told(all_one(other)), [-33], [-22]])
                self.assertEqual(given[3:-2], lines_told(n, carried))
                self.assertEqual(given[-2:], asked_behind(filled(n, carried), [found(), row(0)]))

    def test_the_table_that_is_kept_stays_kept(self):
        given = ask(begin(2), keep(), put(3, 4, 5), handed(3, all_one(3)), handed(2, all_one(2)), changed())
        self.assertEqual(given[-1], [1, 3, 1, 1])
        self.assertEqual(last(begin(2), handed(2, all_one(2)), changed()), [-6])


class ToldRefused(unittest.TestCase):
    def test_widths(self):
        for n in (0, 4, -1, 5, LEAST, MOST):
            for count in (0, 6, 28, 66, 70):
                self.assertEqual(last(begin(1), told(n, 4, [1] * count)), [-22])

    def test_numbers_below(self):
        for n in (1, 2, 3):
            good = handed(n, all_one(n))
            for e in (0, -1, -4, LEAST):
                self.assertEqual(last(begin(1), with_number(good, 2, e)), [-22])

    def test_too_few_and_too_many(self):
        for n in (1, 2, 3):
            numbers = handed(n, all_one(n))[4:]
            for count in (0, 1, len(numbers) - 1, len(numbers) + 1, 6, 28, 66, 70):
                if count != len(numbers):
                    self.assertEqual(last(begin(1), told(n, 4, (numbers * 12)[:count])), [-22])

    def test_a_number_below_0(self):
        for n in (1, 2, 3):
            good = handed(n, all_one(n))
            for at in range(4, len(good)):
                for number in (-1, -good[at], LEAST):
                    self.assertEqual(last(begin(1), with_number(good, at, number)), [-22])

    def test_22_comes_ahead_of_33(self):
        for n in (1, 2, 3):
            nothing = [0] * table_length(n)
            self.assertEqual(last(begin(n), told(n, 1, nothing)), [-33])
            for wrong in (
                told(0, 1, nothing), told(4, 1, nothing), told(n, 0, nothing), told(n, -1, nothing),
                told(n, 1, nothing[1:]), told(n, 1, nothing + [0]), told(n, 1, nothing[1:] + [-1]),
                told(n, 1, [LEAST] + nothing[1:]),
            ):
                self.assertEqual(last(begin(n), wrong), [-22])


class NoSuchSquare(unittest.TestCase):
    def refused(self, n, e, numbers):
        self.assertEqual(last(begin(1), told(n, e, numbers)), [-33], (n, e, numbers))

    def test_all_0(self):
        for n in (1, 2, 3):
            for e in (1, 224, MOST):
                self.refused(n, e, [0] * table_length(n))

    def test_one_0(self):
        for n, carried in [(n, all_one(n)) for n in (1, 2, 3)] + FAR_APART:
            good = handed(n, carried)
            for at in range(4, len(good)):
                self.assertEqual(last(begin(1), with_number(good, at, 0)), [-33])

    def test_0_all_over_but_at_one(self):
        for n in (1, 2, 3):
            for at in range(table_length(n)):
                numbers = [0] * table_length(n)
                numbers[at] = 5
                self.refused(n, 4, numbers)

    def test_nearly_a_squares(self):
        for n, carried in [(n, all_one(n)) for n in (1, 2, 3)] + FAR_APART:
            good = handed(n, carried)
            for at in range(4, len(good)):
                self.assertEqual(last(begin(1), with_number(good, at, good[at] + 1)), [-33])
                self.assertEqual(last(begin(1), with_number(good, at, good[at] - 1)), [-33])

    def test_still_nearer(self):
        for n, times in ((1, 500000000), (2, 80000000), (3, 9000000)):
            good = handed(n, all_one(n), times)
            for at in range(4, len(good)):
                self.assertEqual(last(begin(1), with_number(good, at, good[at] + 1)), [-33])
                self.assertEqual(last(begin(1), with_number(good, at, good[at] - 1)), [-33])

    def test_more_between_the_places_that_are_woken_together(self):
        # No waking shows this: only the lines' own table does.
        for n in (1, 2, 3):
            for step in range(n):
                for i, j in ((step, 3 * n + step), (n + step, 2 * n + step)):
                    good = handed(n, all_one(n), 1000)
                    at = number_at(n, i, j)
                    self.assertEqual(last(begin(1), with_number(good, at, good[at] + 1)), [-33])

    def test_two_numbers_changed_for_one_another(self):
        for n, carried in FAR_APART:
            good = handed(n, carried)
            if good[4] != good[5]:
                self.assertEqual(last(begin(1), good[:4] + [good[5], good[4]] + good[6:]), [-33])

    def test_all_numbers_the_same(self):
        for n in (2, 3):
            for number in (1, 7, MOST):
                self.refused(n, 4, [number] * table_length(n))

    def test_a_line_that_carries_nothing(self):
        for n in (1, 2, 3):
            for k in range(len(LINES[n])):
                carried = all_one(n)
                carried[k] = (0, 1)
                e, numbers = reckoned.over_one(reckoned.table(n, carried))
                self.refused(n, e, numbers)

    def test_a_line_that_carries_less_than_nothing(self):
        for n in (2, 3):
            for k, (one, other) in enumerate(LINES[n]):
                if one >= 4 * n and other >= 4 * n:
                    carried = all_one(n)
                    carried[k] = (-1, 20)
                    e, numbers = reckoned.over_one(reckoned.table(n, carried))
                    self.assertTrue(all(number > 0 for number in numbers))
                    self.refused(n, e, numbers)

    def test_a_refused_table_changes_nothing(self):
        given = ask(begin(1), put(0, 2, 3), told(1, 1, [0] * 6), told(1, 1, [1]), line(0), found())
        self.assertEqual(given[2:], [[-33], [-22], [0, 3, 4, 2, 3], [4, 2, 3] + [1, 1] * 3])


if __name__ == "__main__":
    unittest.main()
