"""Point 2: seen, row, flow, inside."""

import unittest
from fractions import Fraction

from asking import (
    LEAST, LINES, MOST, all_one, ask, begin, flow, fractions_of, inside, last, line, mixed, put, puts, row, seen,
    squares, very_different,
)


def some_voltages(n):
    count = 4 * n
    return [
        [0] * count,
        [1000] * count,
        [-1000] * count,
        [1] + [0] * (count - 1),
        [0] * (count - 1) + [1],
        [(37 * i * i - 500) % 2001 - 1000 for i in range(count)],
        [1000 if i % 2 == 0 else -1000 for i in range(count)],
    ]


def out_of_places(n, carried, voltages):
    """What flows from each place into its lines, by the document's own words."""
    flows = [Fraction(0) for voltage in voltages]
    for (one, other), (a, b) in zip(LINES[n], carried):
        flow_along = Fraction(a, b) * (voltages[one] - voltages[other])
        flows[one] += flow_along
        flows[other] -= flow_along
    return flows


class FlowAndInside(unittest.TestCase):
    def test_what_flows_and_the_voltages_inside_keep_the_law(self):
        for n, carried in squares():
            for edge in some_voltages(n):
                given = ask(begin(n), *puts(carried), inside(edge), flow(edge))
                within = fractions_of(given[-2])
                flows = fractions_of(given[-1])
                self.assertEqual((len(within), len(flows)), (n * n, 4 * n))
                lawful = out_of_places(n, carried, [Fraction(voltage) for voltage in edge] + within)
                self.assertEqual(lawful[4 * n:], [0] * (n * n))
                self.assertEqual(lawful[:4 * n], flows)
                self.assertEqual(sum(flows), 0)

    def test_one_wide_by_hand(self):
        given = ask(begin(1), flow([4, 0, 0, 0]), inside([4, 0, 0, 0]), flow([1, 0, 0, 0]), inside([-1, 0, 0, 0]))
        self.assertEqual(given[1:], [
            [4, 3, 1, -1, 1, -1, 1, -1, 1], [1, 1, 1], [4, 3, 4, -1, 4, -1, 4, -1, 4], [1, -1, 4],
        ])

    def test_one_wide_with_fractions_by_hand(self):
        # West 1 by 2, east 3, north 2, south 1 by 2: six all together.
        filled = puts([(1, 2), (3, 1), (2, 1), (1, 2)])
        given = ask(begin(1), *filled, inside([6, 0, 0, 0]), flow([6, 0, 0, 0]), inside([0, 1, 0, -1]))
        self.assertEqual(given[5:], [[1, 2, 1], [4, 8, 1, -6, 1, -1, 1, -1, 1], [1, 5, 12]])

    def test_two_wide_by_hand(self):
        edge = [24, 0, 0, 0, 0, 0, 0, 0]
        self.assertEqual(last(begin(2), inside(edge)), [4, 7, 1, 2, 1, 2, 1, 1, 1])
        self.assertEqual(
            last(begin(2), flow(edge)), [8, 17, 1, -2, 1, -2, 1, -1, 1, -2, 1, -1, 1, -7, 1, -2, 1]
        )

    def test_three_wide_same_voltage_all_over(self):
        self.assertEqual(last(begin(3), inside([-7] * 12)), [9] + [-7, 1] * 9)
        self.assertEqual(last(begin(3), flow([-7] * 12)), [12] + [0, 1] * 12)

    def test_three_wide_from_north_to_south(self):
        edge = [4, 4, 4, 3, 2, 1, 0, 0, 0, 3, 2, 1]
        self.assertEqual(last(begin(3), inside(edge)), [9] + [3, 1] * 3 + [2, 1] * 3 + [1, 1] * 3)
        self.assertEqual(last(begin(3), flow(edge)), [12] + [1, 1] * 3 + [0, 1] * 3 + [-1, 1] * 3 + [0, 1] * 3)

    def test_rows_that_are_refused(self):
        for call in (flow, inside):
            for n in (1, 2, 3):
                for count in (0, 1, 4 * n - 1, 4 * n + 1, 4 * n + n * n, 70):
                    if count != 4 * n:
                        self.assertEqual(last(begin(n), call([0] * count)), [-22])
                for wrong in (1001, -1001, LEAST, MOST):
                    for i in range(4 * n):
                        edge = [0] * (4 * n)
                        edge[i] = wrong
                        self.assertEqual(last(begin(n), call(edge)), [-22])

    def test_both_refusals_at_once_are_one(self):
        for call in (flow, inside):
            self.assertEqual(ask(begin(1), call([1001] * 5), call([0] * 4))[1], [-22])

    def test_the_call_behind_a_refused_row_is_answered(self):
        for call in (flow, inside):
            given = ask(begin(1), call([5] * 70), call([]), line(1), call([0, 0, 0, MOST]), begin(3))
            self.assertEqual(given[1:], [[-22], [-22], [0, 4, 1, 1, 1], [-22], [24]])


class SeenAndRow(unittest.TestCase):
    def test_row_is_what_flows_out_by_voltage_1(self):
        for n, carried in squares():
            for i in range(4 * n):
                edge = [0] * (4 * n)
                edge[i] = 1
                given = ask(begin(n), *puts(carried), flow(edge), row(i))
                expected = [-flows for flows in fractions_of(given[-2])]
                expected[i] = 0
                self.assertEqual(fractions_of(given[-1]), expected)
                self.assertEqual(given[-1][1 + 2 * i:3 + 2 * i], [0, 1])

    def test_seen_is_what_the_row_tells(self):
        for n, carried in squares():
            for i in range(4 * n):
                others = [j for j in range(4 * n) if j != i]
                filled = puts(carried)
                given = ask(begin(n), *filled, row(i), *[seen(i, j) for j in others], *[seen(j, i) for j in others])
                told = given[1 + len(filled)]
                expected = [[0] + told[1 + 2 * j:3 + 2 * j] for j in others]
                self.assertEqual(given[2 + len(filled):], expected + expected)
                self.assertTrue(all(answer[1] > 0 for answer in expected))

    def test_one_wide_by_hand(self):
        self.assertEqual(last(begin(1), row(2)), [4, 1, 4, 1, 4, 0, 1, 1, 4])
        # West 1 by 2, east 3, north 2, south 1 by 2: six all together.
        filled = puts([(1, 2), (3, 1), (2, 1), (1, 2)])
        self.assertEqual(last(begin(1), *filled, row(0)), [4, 0, 1, 1, 1, 1, 6, 1, 6])
        self.assertEqual(last(begin(1), *filled, seen(1, 3)), [0, 1, 4])
        self.assertEqual(last(begin(1), *filled, seen(3, 2)), [0, 1, 24])

    def test_two_wide_by_hand(self):
        self.assertEqual(last(begin(2), row(0)), [8, 0, 1, 1, 12, 1, 12, 1, 24, 1, 12, 1, 24, 7, 24, 1, 12])
        self.assertEqual(last(begin(2), seen(0, 6)), [0, 7, 24])
        self.assertEqual(last(begin(2), seen(5, 0)), [0, 1, 24])

    def test_each_line_three_wide_is_seen_from_the_edge(self):
        plain = [last(begin(3), row(i)) for i in range(12)]
        tables = [plain]
        for k in range(24):
            rows = ask(begin(3), put(k, 99, 98), *[row(i) for i in range(12)])[2:]
            self.assertNotIn(rows, tables)
            tables.append(rows)

    def test_lines_at_the_middle_place_three_wide(self):
        for k in (5, 6, 17, 18):
            for a, b in ((99, 1), (1, 99)):
                carried = all_one(3)
                carried[k] = (a, b)
                for edge in some_voltages(3):
                    given = ask(begin(3), put(k, a, b), inside(edge), flow(edge))
                    voltages = [Fraction(voltage) for voltage in edge] + fractions_of(given[2])
                    self.assertEqual(out_of_places(3, carried, voltages), fractions_of(given[3]) + [0] * 9)

    def test_places_that_are_not_at_the_edge(self):
        for n in (1, 2, 3):
            for wrong in (-1, 4 * n, 4 * n + n * n - 1, 4 * n + n * n, -4 * n, LEAST, MOST):
                given = ask(begin(n), seen(wrong, 0), seen(0, wrong), seen(wrong, wrong), row(wrong))
                self.assertEqual(given[1:], [[-2]] * 4)

    def test_one_and_the_same_place(self):
        for n in (1, 2, 3):
            for i in range(4 * n):
                self.assertEqual(last(begin(n), seen(i, i)), [-22])

    def test_a_set_in_between_is_seen(self):
        given = ask(begin(1), seen(0, 1), put(2, 5, 1), seen(0, 1), put(2, 1, 1), seen(0, 1))
        self.assertEqual(given[1::2], [[0, 1, 4], [0, 5, 8], [0, 1, 4]])

    def test_refused_calls_change_nothing(self):
        for n, fill in ((1, mixed), (2, very_different), (3, mixed)):
            filled = puts(fill(n))
            refused = [
                seen(0, 0), seen(-1, 0), row(-1), row(4 * n), flow([]), flow([1001] * (4 * n)), inside([0]),
                inside([-1001] * (4 * n)), put(-1, 1, 1), put(0, 0, 1), line(-1), begin(0), begin(4),
            ]
            given = ask(begin(n), *filled, row(1), *refused, row(1))
            self.assertEqual(given[1 + len(filled)], given[-1])
            self.assertEqual([len(answer) for answer in given[2 + len(filled):-1]], [1] * len(refused))


if __name__ == "__main__":
    unittest.main()
