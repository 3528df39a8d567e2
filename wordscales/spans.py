"""Spans: the sums of multiples of some rows, and the rows that a machine reaches."""

from wordscales.fracts import NOUGHT, ONE, lowest, shared_bottom, tops_over, whole_pair_sum, without_common
from wordscales.machines import led_on, whole_step


# A multiple of a row spans what the row spans: whole numbers without a common divisor stay shortest.
def whole_row(row):
    return without_common(tops_over(row, shared_bottom(row)))


def unit_row(place, places):
    row = [0] * places
    row[place] = 1
    return row


# The pivots are minors of the rows taken, and so is every number here: the divisor, the pivot of
# the time before, leaves no rest.
def narrowed(check, number, gone, pivot, divisor):
    return [(pivot * mine - number * theirs) // divisor for mine, theirs in zip(check, gone)]


# All sums of multiples of the rows taken so far, which are rows of whole numbers. A span keeps no
# row, but checks: rows that come to nought with each row taken. A row is in the span just where it
# comes to nought with all checks, which asks for far fewer and shorter products than reducing it by
# the rows would. There is a check for each free place, with the pivot there and nought at the other
# free places, so that the numbers at the taken places settle a row of the span.
class Span:
    def __init__(self, places):
        self.free = list(range(places))
        self.taken = []
        self.checks = [unit_row(place, places) for place in range(places)]
        self.pivot = 1

    def full(self):
        return self.free == []

    def holds(self, row):
        return all([whole_pair_sum(check, row) == 0 for check in self.checks])

    # Tells whether the row was new to the span.
    def take(self, row):
        sums = [whole_pair_sum(check, row) for check in self.checks]
        unmet = [turn for turn, number in enumerate(sums) if number != 0]
        if unmet == []:
            return False
        turn = unmet[0]
        pivot = sums.pop(turn)
        gone = self.checks.pop(turn)
        left = [narrowed(check, number, gone, pivot, self.pivot) for check, number in zip(self.checks, sums)]
        self.checks = left
        self.pivot = pivot
        self.taken.append(self.free.pop(turn))
        return True

    # The one row of the span, of fractions, with 1 at this taken place and nought at the other taken ones.
    def settled_row(self, place):
        row = [NOUGHT] * (len(self.free) + len(self.taken))
        row[place] = ONE
        for spot, check in zip(self.free, self.checks):
            row[spot] = lowest(-check[place], self.pivot)
        return row


# The words, in their order, whose row is no sum of multiples of the rows behind words ahead of them,
# and multiples of these rows. Where the row behind a word is such a sum, so is the row behind the
# word with more signs, and so these words are not asked for.
class Reach:
    def __init__(self, machine):
        self.steps = [whole_step(step)[0] for step in machine[1]]
        self.span = Span(len(machine[0]))
        self.words = []
        self.rows = []
        # A word stands here with the row of the word that is one sign shorter; first has none.
        self.waiting = [((), whole_row(machine[0]))]
        self.asked = 0

    # Tells the next of the rows, or None where there are no more.
    def onward(self):
        while self.asked < len(self.waiting) and not self.span.full():
            word = self.waiting[self.asked][0]
            row = self.row_led_on(word, self.waiting[self.asked][1])
            self.asked = self.asked + 1
            if self.span.take(row):
                self.keep(word, row)
                return row
        return None

    def row_led_on(self, word, row):
        if word == ():
            return row
        return without_common(led_on(row, self.steps[word[-1]]))

    def keep(self, word, row):
        self.words.append(word)
        self.rows.append(row)
        for sign in range(len(self.steps)):
            self.waiting.append((word + (sign,), row))


def whole_reach(machine):
    reach = Reach(machine)
    while reach.onward() is not None:
        pass
    return reach
