"""Point 2: wake."""

import unittest
from fractions import Fraction

import reckoned
from asking import (
    LEAST, LINES, MOST, all_one, ask, asked_behind, begin, filled, fractions_of, last, lines_asked, lines_told, mixed,
    puts, squares, turn, very_different, wake,
)


def corner(n, s):
    """The places of its north, its west and the side across from that, each from the corner on."""
    north, east = list(range(n)), list(range(n, 2 * n))
    south, west = list(range(2 * n, 3 * n)), list(range(3 * n, 4 * n))
    if s == 0:
        return north, west, east
    return south[::-1], east[::-1], west[::-1]


def steps_from_corner(n, s, place):
    steps = place // n + place % n
    return steps if s == 0 else 2 * (n - 1) - steps


def every_waking():
    return [(n, carried, k, s) for n, carried in squares() for k in range(n) for s in (0, 1)]


class Wake(unittest.TestCase):
    def test_voltages_at_the_edge(self):
        for n, carried, k, s in every_waking():
            voltages = fractions_of(last(*filled(n, carried), wake(k, s)))
            self.assertEqual(len(voltages), 4 * n)
            north, west, across = corner(n, s)
            self.assertEqual(voltages[north[k]], 1)
            for place in range(4 * n):
                if place != north[k] and place not in west[:k + 1]:
                    self.assertEqual(voltages[place], 0)

    def test_nothing_flows_in_but_at_the_first_places(self):
        for n, carried, k, s in every_waking():
            voltages = fractions_of(last(*filled(n, carried), wake(k, s)))
            flows = reckoned.flows(n, carried, voltages)
            north, west, across = corner(n, s)
            for place in range(4 * n):
                if place not in north[:k + 1] + west[:k + 1]:
                    self.assertEqual(flows[place], 0, (n, k, s, place))
            self.assertEqual([flows[place] for place in across[:k + 1]], [0] * (k + 1))
            self.assertGreater(flows[north[k]], 0)

    def test_voltages_inside_reach_fewer_than_k_steps(self):
        for n, carried, k, s in every_waking():
            voltages = fractions_of(last(*filled(n, carried), wake(k, s)))
            for place, voltage in enumerate(reckoned.inside(n, carried, voltages)):
                if steps_from_corner(n, s, place) >= k:
                    self.assertEqual(voltage, 0, (n, k, s, place))
                elif steps_from_corner(n, s, place) == k - 1:
                    self.assertNotEqual(voltage, 0, (n, k, s, place))

    def test_one_wide_by_hand(self):
        self.assertEqual(ask(begin(1), wake(0, 0), wake(0, 1))[1:], [
            [4, 1, 1, 0, 1, 0, 1, -1, 1], [4, 0, 1, -1, 1, 1, 1, 0, 1],
        ])
        # West 1 by 2, east 3, north 2, south 1 by 2.
        given = ask(begin(1), *puts([(1, 2), (3, 1), (2, 1), (1, 2)]), wake(0, 0), wake(0, 1))
        self.assertEqual(given[5:], [[4, 1, 1, 0, 1, 0, 1, -4, 1], [4, 0, 1, -1, 6, 1, 1, 0, 1]])

    def test_two_wide_by_hand(self):
        given = ask(begin(2), wake(0, 0), wake(1, 0), wake(0, 1), wake(1, 1))
        self.assertEqual([fractions_of(answer) for answer in given[1:]], [
            [1, 0, 0, 0, 0, 0, -1, 0], [0, 1, 0, 0, 0, 0, -4, 1],
            [0, 0, 0, -1, 0, 1, 0, 0], [0, 0, 1, -4, 1, 0, 0, 0],
        ])

    def test_two_wide_with_fractions_by_hand(self):
        # By wake 1 the place next to the corner has -5: 2 times 5 flow out of its eastern line, 3 times 5
        # out of its southern one, 7 times 5 out at its northern place: 60, and so 1 by 2 brings 60.
        carried = all_one(2)
        carried[0], carried[1], carried[3] = (1, 2), (2, 1), (1, 4)
        carried[6], carried[7], carried[9] = (7, 1), (3, 1), (10, 1)
        self.assertEqual(
            fractions_of(last(*filled(2, carried), wake(1, 0))), [0, 1, 0, 0, 0, 0, -125, 60],
        )
        self.assertEqual(
            fractions_of(last(*filled(2, carried), wake(0, 0))), [1, 0, 0, 0, 0, 0, -14, 0],
        )

    def test_three_wide_by_hand(self):
        # By wake 2 the places one step from the one next to the corner have -1 and 1; that one has -4.
        self.assertEqual(fractions_of(last(begin(3), wake(2, 0))), [0, 0, 1] + [0] * 6 + [-16, 8, -1])
        self.assertEqual(fractions_of(last(begin(3), wake(2, 1))), [0, 0, 0, -1, 8, -16, 1] + [0] * 5)

    def test_the_other_corner_is_the_first_one_turned_twice(self):
        for n, carried, k, s in every_waking():
            once = fractions_of(last(*filled(n, carried), wake(k, s)))
            other = fractions_of(last(*filled(n, carried), turn(), turn(), wake(k, 1 - s)))
            side = [once[at * n:(at + 1) * n][::-1] for at in range(4)]
            self.assertEqual(other, side[2] + side[3] + side[0] + side[1])

    def test_what_is_refused(self):
        for n in (1, 2, 3):
            for s in (0, 1):
                for k in (-1, n, n + 1, -n, LEAST, MOST):
                    self.assertEqual(last(begin(n), wake(k, s)), [-2])
            for k in range(n):
                for s in (-1, 2, 3, LEAST, MOST):
                    self.assertEqual(last(begin(n), wake(k, s)), [-2])
            self.assertEqual(last(begin(n), wake(n, 2)), [-2])

    def test_waking_changes_nothing(self):
        for n, fill in ((1, mixed), (2, very_different), (3, mixed)):
            asked = [wake(0, 0), wake(n - 1, 1), wake(n, 0), wake(0, 2)] + lines_asked(n) + [wake(0, 0), wake(n - 1, 1)]
            given = asked_behind(filled(n, fill(n)), asked)
            self.assertEqual(given[:2], given[-2:])
            self.assertEqual(given[2:4], [[-2], [-2]])
            self.assertEqual(given[4:-2], lines_told(n, fill(n)))

    def test_a_line_out_of_reach_is_not_seen(self):
        for n in (1, 2, 3):
            for k in range(n):
                for at, (one, other) in enumerate(LINES[n]):
                    inner = [place - 4 * n for place in (one, other) if place >= 4 * n]
                    steps = [steps_from_corner(n, 0, place) for place in inner]
                    if min(steps) >= k + 1:
                        carried = all_one(n)
                        carried[at] = (99, 1)
                        self.assertEqual(last(*filled(n, carried), wake(k, 0)), last(begin(n), wake(k, 0)))

    def test_the_middle_lines_three_wide(self):
        for at in (5, 6, 17, 18):
            for a, b in ((99, 1), (1, 99)):
                carried = all_one(3)
                carried[at] = (a, b)
                for s in (0, 1):
                    voltages = fractions_of(last(*filled(3, carried), wake(2, s)))
                    flows = reckoned.flows(3, carried, voltages)
                    north, west, across = corner(3, s)
                    self.assertEqual([flows[place] for place in across], [Fraction(0)] * 3)


if __name__ == "__main__":
    unittest.main()
