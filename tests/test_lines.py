"""Point 1: begin, set, line."""

import unittest

from asking import (
    LEAST, LINES, MOST, TURNED, all_one, ask, asked_behind, begin, filled, flow, last, line, lines_asked, lines_told,
    put, puts, row, seen, squares, turn, turned, very_different,
)


class Begin(unittest.TestCase):
    def test_how_many_lines(self):
        self.assertEqual([ask(begin(n)) for n in (1, 2, 3)], [[[4]], [[12]], [[24]]])

    def test_each_line_carries_1(self):
        for n in (1, 2, 3):
            self.assertEqual(ask(begin(n), *lines_asked(n))[1:], lines_told(n, all_one(n)))

    def test_widths_that_are_refused(self):
        for n in (0, 4, -1, -2, 5, LEAST, MOST):
            self.assertEqual(ask(begin(n)), [[-22]])
            self.assertEqual(ask(begin(n), line(0)), [[-22], [-11]])

    def test_refused_begin_changes_nothing(self):
        for n in (0, 4, -1, MOST):
            given = ask(begin(2), put(3, 7, 5), begin(n), line(3), line(11), line(12), row(0))
            self.assertEqual(given[2:6], [[-22], [0, 7, 10, 7, 5], [0, 11, 5, 1, 1], [-2]])
            self.assertEqual(given[6][0], 8)

    def test_begin_again_makes_every_line_1(self):
        for n in (1, 2, 3):
            given = asked_behind(filled(3, very_different(3)), [begin(n)] + lines_asked(n))
            self.assertEqual(given, [[len(LINES[n])]] + lines_told(n, all_one(n)))

    def test_begin_again_wider_and_narrower(self):
        given = ask(begin(1), line(3), line(4), begin(3), line(23), line(24), begin(1), line(3), line(4), row(4))
        self.assertEqual(given, [
            [4], [0, 4, 2, 1, 1], [-2], [24], [0, 20, 8, 1, 1], [-2], [4], [0, 4, 2, 1, 1], [-2], [-2],
        ])


class Set(unittest.TestCase):
    def test_answers_what_the_line_carried(self):
        given = ask(begin(1), put(2, 3, 7), put(2, 99, 1), put(2, 1, 99), put(2, 5, 5))
        self.assertEqual(given[1:], [[0, 1, 1], [0, 3, 7], [0, 99, 1], [0, 1, 99]])

    def test_fractions_have_nothing_in_common(self):
        given = ask(begin(1), put(0, 98, 14), put(0, 14, 98), put(0, 99, 99), put(0, 60, 84), line(0))
        self.assertEqual(given[1:], [[0, 1, 1], [0, 7, 1], [0, 1, 7], [0, 1, 1], [0, 3, 4, 5, 7]])

    def test_sets_its_line_alone(self):
        for n in (1, 2, 3):
            for k in range(len(LINES[n])):
                carried = all_one(n)
                carried[k] = (11, 13)
                self.assertEqual(ask(begin(n), put(k, 11, 13), *lines_asked(n))[2:], lines_told(n, carried))

    def test_lines_that_are_not_there(self):
        for n in (1, 2, 3):
            for k in (-1, len(LINES[n]), len(LINES[n]) + 1, -len(LINES[n]), LEAST, MOST):
                self.assertEqual(last(begin(n), put(k, 1, 2)), [-2])

    def test_numbers_that_are_refused(self):
        for wrong in (0, 100, -1, -99, LEAST, MOST):
            self.assertEqual(last(begin(1), put(0, wrong, 1)), [-22])
            self.assertEqual(last(begin(1), put(0, 1, wrong)), [-22])
            self.assertEqual(last(begin(1), put(0, wrong, wrong)), [-22])

    def test_no_line_comes_before_no_number(self):
        for n in (1, 2, 3):
            self.assertEqual(last(begin(n), put(-1, 0, 1)), [-2])
            self.assertEqual(last(begin(n), put(len(LINES[n]), 1, 100)), [-2])

    def test_refused_set_changes_nothing(self):
        for wrong in (put(-1, 9, 8), put(4, 9, 8), put(3, 0, 8), put(3, 100, 8), put(3, 9, 0), put(3, 9, 100)):
            given = ask(begin(1), put(3, 2, 3), wrong, *lines_asked(1))
            self.assertEqual(given[3:], lines_told(1, [(1, 1), (1, 1), (1, 1), (2, 3)]))


class Line(unittest.TestCase):
    def test_every_line_of_every_square(self):
        for n, carried in squares():
            self.assertEqual(ask(begin(n), *puts(carried), *lines_asked(n))[1 + len(carried):], lines_told(n, carried))

    def test_lines_that_are_not_there(self):
        for n in (1, 2, 3):
            for k in (-1, len(LINES[n]), len(LINES[n]) + 1, -len(LINES[n]), LEAST, MOST):
                self.assertEqual(last(begin(n), line(k)), [-2])

    def test_asking_changes_nothing(self):
        given = ask(begin(2), put(1, 2, 9), line(1), seen(0, 1), row(3), flow([1] * 8), line(1))
        self.assertEqual(given[2], given[6])


class Turn(unittest.TestCase):
    def test_each_line_joins_the_places_its_own_were_turned_to(self):
        for n, carried in squares():
            given = asked_behind(filled(n, carried), [turn()] + lines_asked(n))
            self.assertEqual(given, [[0]] + lines_told(n, turned(n, carried)))

    def test_one_wide_by_hand(self):
        # West 1 by 2, east 3, north 2, south 5: turned, these are north, south, east, west.
        given = ask(*filled(1, [(1, 2), (3, 1), (2, 1), (5, 1)]), turn(), *lines_asked(1))
        self.assertEqual(given[5:], [[0], [0, 3, 4, 5, 1], [0, 4, 1, 2, 1], [0, 0, 4, 1, 2], [0, 4, 2, 3, 1]])

    def test_each_side_goes_to_the_next(self):
        # North and south keep the order in which they are counted; east and west are counted the other way then.
        for n in (1, 2, 3):
            for place in range(4 * n):
                side, step = divmod(place, n)
                k = [at for at, ends in enumerate(LINES[n]) if place in ends][0]
                given = asked_behind([begin(n), put(k, 7, 9)], [turn()] + lines_asked(n))
                places = [min(answer[1:3]) for answer in given[1:] if answer[3:] == [7, 9]]
                self.assertEqual(places, [(side + 1) % 4 * n + (step if side in (0, 2) else n - 1 - step)])

    def test_turned_four_times_it_is_as_it_was(self):
        for n, carried in squares():
            before = filled(n, carried)
            self.assertEqual(asked_behind(before + [turn()] * 4, lines_asked(n)), lines_told(n, carried))
            for times in (1, 2, 3):
                if carried[0] != carried[1]:
                    self.assertNotEqual(asked_behind(before + [turn()] * times, lines_asked(n)), lines_told(n, carried))

    def test_what_was_seen_is_seen_between_the_turned_places(self):
        for n, carried in squares():
            for i in range(4 * n):
                others = [j for j in range(4 * n) if j != i]
                before = asked_behind(filled(n, carried), [seen(i, j) for j in others])
                turned_to = [seen(TURNED[n][i], TURNED[n][j]) for j in others]
                self.assertEqual(asked_behind(filled(n, carried) + [turn()], turned_to), before)

    def test_set_behind_a_turn_sets_the_line_of_that_number(self):
        for n in (1, 2, 3):
            carried = turned(n, very_different(n))
            carried[1] = (11, 13)
            given = asked_behind(filled(n, very_different(n)) + [turn(), put(1, 11, 13)], lines_asked(n))
            self.assertEqual(given, lines_told(n, carried))
            given = asked_behind(filled(n, very_different(n)) + [turn(), put(1, 11, 13), turn()], lines_asked(n))
            self.assertEqual(given, lines_told(n, turned(n, carried)))

    def test_begin_behind_a_turn(self):
        given = asked_behind(filled(2, very_different(2)) + [turn(), begin(3), turn()], lines_asked(3))
        self.assertEqual(given, lines_told(3, all_one(3)))


if __name__ == "__main__":
    unittest.main()
