"""Notes: machines as texts, each written in one way alone."""

from wordscales.errors import BadNote
from wordscales.fracts import lowest
from wordscales.machines import MOST_ROOMS, MOST_SIGNS

FIGURES = "0123456789"
MOST_FIGURES = 30
# Python writes no number of some thousand figures at once, so that long ones are written by pieces.
PIECE = 1_000_000_000_000_000_000
PIECE_FIGURES = 18


def shown(machine):
    rooms = len(machine[0])
    signs = len(machine[1])
    lines = [f"machine {rooms} {signs}", line_of("first", machine[0]), line_of("last", machine[2])]
    for sign, step in enumerate(machine[1]):
        for room, row in enumerate(step):
            lines.append(line_of(f"step {sign} {room}", row))
    return "".join([f"{line}\n" for line in lines])


def line_of(name, row):
    return " ".join([name] + [fraction_text(fraction) for fraction in row])


def fraction_text(fraction):
    text = figures_of(abs(fraction[0]))
    if fraction[0] < 0:
        text = "-" + text
    if fraction[1] != 1:
        text = text + "/" + figures_of(fraction[1])
    return text


def figures_of(number):
    pieces = []
    while number >= PIECE:
        pieces.append(str(number % PIECE).zfill(PIECE_FIGURES))
        number = number // PIECE
    pieces.append(str(number))
    return "".join(reversed(pieces))


def read(text):
    lines = text.split("\n")
    sizes = sizes_read(lines[0])
    rooms = sizes[0]
    if len(lines) != 4 + rooms * sizes[1] or lines[-1] != "":
        raise BadNote("there are not just 3 lines and one for each step and room, each with a line end")
    first = row_read(lines[1], "first", rooms)
    last = row_read(lines[2], "last", rooms)
    steps = [step_read(lines[3 + sign * rooms:], sign, rooms) for sign in range(sizes[1])]
    return (first, tuple(steps), last)


def sizes_read(line):
    words = line.split(" ")
    if len(words) != 3 or words[0] != "machine":
        raise BadNote("the first line is not machine ROOMS SIGNS")
    rooms = number_read(words[1])
    signs = number_read(words[2])
    if rooms > MOST_ROOMS or signs < 1 or signs > MOST_SIGNS:
        raise BadNote(f"{rooms} rooms and {signs} signs are not up to {MOST_ROOMS} and 1 to {MOST_SIGNS}")
    return (rooms, signs)


def step_read(lines, sign, rooms):
    return tuple([row_read(lines[room], f"step {sign} {room}", rooms) for room in range(rooms)])


def row_read(line, name, rooms):
    names = name.split(" ")
    words = line.split(" ")
    if words[:len(names)] != names or len(words) != len(names) + rooms:
        raise BadNote(f"a line is not {name} and {rooms} numbers")
    return tuple([fraction_read(word) for word in words[len(names):]])


def fraction_read(word):
    parts = word.partition("/")
    top = top_read(parts[0])
    if parts[1] == "":
        return (top, 1)
    bottom = number_read(parts[2])
    if bottom < 2 or lowest(top, bottom) != (top, bottom):
        raise BadNote("a fraction is not in lowest terms, or has a bottom that is not written")
    return (top, bottom)


def top_read(word):
    if not word.startswith("-"):
        return number_read(word)
    top = number_read(word[1:])
    if top == 0:
        raise BadNote("nought has no sign ahead")
    return -top


def number_read(word):
    if word == "" or len(word) > MOST_FIGURES or any([figure not in FIGURES for figure in word]):
        raise BadNote(f"a number is not 1 to {MOST_FIGURES} figures")
    if word[0] == "0" and word != "0":
        raise BadNote("a number has a needless nought")
    return int(word)
