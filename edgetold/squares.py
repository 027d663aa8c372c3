"""The calls on one square: read from one list, answered into one list."""

from edgetold.currents import flows_in, seen_from, table_of, voltages_inside
from edgetold.grid import Square, WIDEST, count_edge, count_inside, count_lines, line_ends
from edgetold.ratios import ratio
from edgetold.telling import NoSuchSquare, lines_by_table, lines_with_table, table_by_numbers
from edgetold.waking import woken, woken_across

NOT_BEGUN = -11
NOT_THERE = -2
NOT_FIT = -22
NOT_KEPT = -6
NO_SQUARE = -33
OTHER_WIDTH = -33

BEGIN = 0
SET = 1
LINE = 2
SEEN = 3
ROW = 4
FLOW = 5
INSIDE = 6
WAKE = 7
FOUND = 8
TOLD = 9
KEEP = 10
CHANGED = 11

# By the call's number.
WHOLE_NUMBERS = (1, 3, 1, 2, 1, 0, 0, 2, 0, 2, 0, 0, 0)
CALLS_WITH_ROW = (5, 6, 9)

MOST_CARRIED = 99
MOST_VOLTAGE = 1000


def spelled(fractions):
    numbers = []
    for fraction in fractions:
        numbers.append(fraction[0])
        numbers.append(fraction[1])
    return numbers


def answer_begin(square, wide):
    if not 1 <= wide <= WIDEST:
        return [NOT_FIT]
    square.renew(wide)
    return [count_lines(wide)]


def answer_set(square, k, a, b):
    if not 0 <= k < count_lines(square.wide):
        return [NOT_THERE]
    if not (1 <= a <= MOST_CARRIED and 1 <= b <= MOST_CARRIED):
        return [NOT_FIT]
    before = square.carried[k]
    square.carried[k] = ratio(a, b)
    return [0] + spelled([before])


def answer_line(square, k):
    if not 0 <= k < count_lines(square.wide):
        return [NOT_THERE]
    ends = line_ends(square.wide, k)
    return [0, ends[0], ends[1]] + spelled([square.carried[k]])


def answer_seen(square, i, j):
    count = count_edge(square.wide)
    if not (0 <= i < count and 0 <= j < count):
        return [NOT_THERE]
    if i == j:
        return [NOT_FIT]
    return [0] + spelled([seen_from(square, j)[i]])


def answer_row(square, i):
    count = count_edge(square.wide)
    if not 0 <= i < count:
        return [NOT_THERE]
    return [count] + spelled(seen_from(square, i))


def fit_the_edge(square, voltages):
    if len(voltages) != count_edge(square.wide):
        return False
    return all([abs(voltage) <= MOST_VOLTAGE for voltage in voltages])


def as_fractions(numbers):
    return [(number, 1) for number in numbers]


def answer_flow(square, voltages):
    if not fit_the_edge(square, voltages):
        return [NOT_FIT]
    return [count_edge(square.wide)] + spelled(flows_in(square, as_fractions(voltages)))


def answer_inside(square, voltages):
    if not fit_the_edge(square, voltages):
        return [NOT_FIT]
    return [count_inside(square.wide)] + spelled(voltages_inside(square, as_fractions(voltages)))


def answer_wake(square, k, s):
    if not (0 <= k < square.wide and 0 <= s <= 1):
        return [NOT_THERE]
    table = table_of(square)
    voltages = woken(square.wide, table, k) if s == 0 else woken_across(square.wide, table, k)
    return [len(voltages)] + spelled(voltages)


def answer_found(square):
    carried = lines_by_table(square.wide, table_of(square))
    return [len(carried)] + spelled(carried)


def fit_a_table(wide, e, numbers):
    if not 1 <= wide <= WIDEST or e < 1:
        return False
    count = count_edge(wide)
    if len(numbers) != count * (count - 1) // 2:
        return False
    return all([number >= 0 for number in numbers])


def answer_told(wide, e, numbers):
    if not fit_a_table(wide, e, numbers):
        return [NOT_FIT]
    try:
        carried = lines_with_table(wide, table_by_numbers(wide, numbers, e))
    except NoSuchSquare:
        return [NO_SQUARE]
    return [len(carried)] + spelled(carried)


def answer_keep(square):
    square.keep(table_of(square))
    return [square.wide]


def answer_changed(square):
    if square.kept_wide == 0:
        return [NOT_KEPT]
    if square.kept_wide != square.wide:
        return [OTHER_WIDTH]
    count = 0
    numbers = []
    for k, before in enumerate(lines_by_table(square.wide, square.kept_table)):
        if before != square.carried[k]:
            count = count + 1
            numbers.append(k)
            numbers.extend(spelled([before]))
    return [count] + numbers


def answer_turn(square):
    square.turn()
    return [0]


def answer_call(square, call):
    number = call[0]
    if number == BEGIN:
        return answer_begin(square, call[1])
    if square.wide == 0:
        return [NOT_BEGUN]
    if number == SET:
        return answer_set(square, call[1], call[2], call[3])
    if number == LINE:
        return answer_line(square, call[1])
    if number == SEEN:
        return answer_seen(square, call[1], call[2])
    if number == ROW:
        return answer_row(square, call[1])
    if number == FLOW:
        return answer_flow(square, call[2:])
    if number == INSIDE:
        return answer_inside(square, call[2:])
    if number == WAKE:
        return answer_wake(square, call[1], call[2])
    if number == FOUND:
        return answer_found(square)
    if number == TOLD:
        return answer_told(call[1], call[2], call[4:])
    if number == KEEP:
        return answer_keep(square)
    if number == CHANGED:
        return answer_changed(square)
    return answer_turn(square)


def end_of_call(calls, start):
    number = calls[start]
    end = start + 1 + WHOLE_NUMBERS[number]
    if number in CALLS_WITH_ROW:
        end = end + 1 + calls[end]
    return end


def answers(calls):
    square = Square()
    given = []
    start = 0
    while start < len(calls):
        end = end_of_call(calls, start)
        answer = answer_call(square, calls[start:end])
        given.append(len(answer))
        given.extend(answer)
        start = end
    return given
