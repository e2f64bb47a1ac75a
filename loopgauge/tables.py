"""Tables: numbers for the places that make what is wanted, or weights that show there are none."""

from math import gcd

from loopgauge.errors import BadTable
from loopgauge.loops import are_wholes, is_list_of, is_whole_within

MOST_LINES = 40
MOST_PLACES = 60


def are_lines(thing):
    """Whether a thing is a list of lines of one length."""
    if not is_list_of(thing, 1, MOST_LINES) or not is_list_of(thing[0], 1, MOST_PLACES):
        return False
    places = len(thing[0])
    return all(are_wholes(line, places) for line in thing)


def is_table(lines, wanted, free):
    """Whether these things make a table."""
    if not are_lines(lines) or not are_wholes(wanted, len(lines)):
        return False
    return is_whole_within(free, 0, len(lines[0]))


def need_table(lines, wanted, free):
    """Refuse what makes no table."""
    if not is_table(lines, wanted, free):
        raise BadTable("this makes no table")


def shortened(numbers):
    """Whole numbers, not all of them 0, without what divides them all."""
    common = 0
    for number in numbers:
        common = gcd(common, number)
    return [number // common for number in numbers]


def swept(row, chosen, place, by):
    """A row from which so much of the chosen one is taken that it is 0 at a place."""
    pivot, factor = chosen[place], row[place]
    # Each number is a determinant of numbers of the table: so the division
    # leaves nothing over, and no number grows longer than that.
    return [(number * pivot - factor * beside) // by for number, beside in zip(row, chosen)]


def is_below_nought(numbers):
    """Whether the first of some numbers that is not 0 is below 0."""
    return numbers < [0] * len(numbers)


def is_less(numbers, times, others, beside):
    """Whether numbers times one are less than others times another one, at the first place that tells."""
    for number, other in zip(numbers, others):
        left, right = number * times, other * beside
        if left != right:
            return left < right
    return False


class Sheet:
    """A table on the way to its answer.

    Each row, divided by `by`, is a sum of the lines, each times a number: a row
    has what that is at each place, then what is wanted of it, then those
    numbers themselves. `held` has for each row the place of which it tells the
    number, None as long as it tells none.
    """

    def __init__(self, lines, wanted, free):
        many = len(lines)
        self.places = len(lines[0])
        self.free = free
        self.by = 1
        self.held = [None] * many
        self.rows = []
        for at, line in enumerate(lines):
            self.rows.append(line + [wanted[at]] + [0] * at + [1] + [0] * (many - at - 1))

    def is_free(self, at):
        """Whether a row tells the number of a free place, which may be below 0."""
        return self.held[at] is not None and self.held[at] < self.free

    def turn(self, at):
        """Turn a row about, plus for minus."""
        self.rows[at] = [-number for number in self.rows[at]]

    def hold(self, at, place):
        """Let a row tell the number of a place, and take the place out of all others."""
        if self.rows[at][place] < 0:
            self.turn(at)
        chosen = self.rows[at]
        rows = [swept(row, chosen, place, self.by) for row in self.rows]
        rows[at] = chosen
        self.rows = rows
        self.held[at] = place
        self.by = chosen[place]

    def bare_with(self, place):
        """The first row that tells no number yet and is not 0 at a place, None where there is none."""
        for at, row in enumerate(self.rows):
            if self.held[at] is None and row[place] != 0:
                return at
        return None

    def hold_free(self):
        """Take the free places out of all rows that are left."""
        for place in range(self.free):
            at = self.bare_with(place)
            if at is not None:
                self.hold(at, place)

    def turn_bare(self):
        """Turn the rows that are left so that 0 or more is wanted of each."""
        for at, place in enumerate(self.held):
            if place is None and is_below_nought(self.rows[at][self.places:]):
                self.turn(at)

    def lack(self):
        """The sum of the rows that tell no number yet: what is still missing."""
        bare = [row for row, place in zip(self.rows, self.held) if place is None]
        if not bare:
            return [0] * len(self.rows[0])
        return [sum(column) for column in zip(*bare)]

    def limits_more(self, at, found, place):
        """Whether a row lets the number of a place grow less than the row that was found."""
        row, other = self.rows[at], self.rows[found]
        return is_less(row[self.places:], other[place], other[self.places:], row[place])

    def limit(self, place):
        """The row that lets the number of a place grow least."""
        found = None
        for at, row in enumerate(self.rows):
            if row[place] <= 0 or self.is_free(at):
                continue
            # Rows that let it grow equally far are told apart by the numbers
            # behind: so no lack comes back, and the steps come to an end.
            if found is None or self.limits_more(at, found, place):
                found = at
        return found

    def takes_less(self, found, step, lack):
        """Whether the step that was found takes less off the lack than another one."""
        (at, place), (beside, another) = found, step
        row, other = self.rows[at], self.rows[beside]
        times, counter = lack[place] * other[another], lack[another] * row[place]
        return is_less(row[self.places:], times, other[self.places:], counter)

    def best_step(self, lack):
        """A row and the place, not free, that it is to tell next; None where no number takes off the lack."""
        found = None
        for place in range(self.free, self.places):
            if lack[place] <= 0:
                continue
            step = (self.limit(place), place)
            # Any such place would do, but the first or the largest one may
            # lead through more steps than anybody can wait for.
            if found is None or self.takes_less(found, step, lack):
                found = step
        return found


def answer_of(sheet):
    """The answer that a sheet without lack tells."""
    numbers = [0] * sheet.places
    for row, place in zip(sheet.rows, sheet.held):
        if place is not None:
            numbers[place] = row[sheet.places]
    short = shortened(numbers + [sheet.by])
    return ("answer", short[:-1], short[-1])


def solved(lines, wanted, free):
    """An answer of a table, or weights that show that it has none."""
    need_table(lines, wanted, free)
    sheet = Sheet(lines, wanted, free)
    sheet.hold_free()
    sheet.turn_bare()
    lack = sheet.lack()
    while lack[sheet.places] > 0:
        step = sheet.best_step(lack)
        if step is None:
            return ("weights", shortened(lack[sheet.places + 1:]))
        sheet.hold(*step)
        lack = sheet.lack()
    return answer_of(sheet)
