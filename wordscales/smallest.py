"""The machine with the fewest rooms, and words that show that fewer would not do."""

from wordscales.fracts import pair_sum
from wordscales.machines import column
from wordscales.making import turned
from wordscales.spans import whole_reach


# What no word leads to goes first, then, in the turned machine, what no end tells apart;
# the second leaves no room unreached again.
def smallest(machine):
    return turned(reached(turned(reached(machine))))


def rank(machine):
    return len(smallest(machine)[0])


# The rows behind the beginnings have a back, and so have those of the turned machine behind the
# ends read backwards: the table, their product, has one too.
def witnesses(machine):
    small = smallest(machine)
    beginnings = list(whole_reach(small).words)
    ends = [word[::-1] for word in whole_reach(turned(small)).words]
    return (beginnings, ends)


# An alike machine whose rows fill their whole span. Its rooms are those whose numbers settle the
# others in every row that the machine reaches; each of them does the others' share too.
def reached(machine):
    span = whole_reach(machine).span
    if span.full():
        return machine
    places = sorted(span.taken)
    shares = [span.settled_row(place) for place in places]
    first = tuple([machine[0][place] for place in places])
    steps = tuple([shared_step(step, places, shares) for step in machine[1]])
    last = tuple([pair_sum(share, machine[2]) for share in shares])
    return (first, steps, last)


def shared_step(step, places, shares):
    columns = [column(step, place) for place in places]
    return tuple([tuple([pair_sum(share, entering) for entering in columns]) for share in shares])
