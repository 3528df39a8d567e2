import unittest
from random import Random

from tests.helper import chance_machine, check_machine, empty_machine, one_number_machine, sparse_machine
from wordscales.errors import BadNote, NoMachine, WeighError
from wordscales.machines import looked
from wordscales.notes import read, shown

NIL = (0, 1)
MACHINE = (
    ((1, 1), (-3, 2)),
    ((((4, 1), NIL), ((1, 2), (-10, 1))), ((NIL, (1, 1)), ((-7, 12), (100, 9)))),
    (NIL, (5, 3)),
)
LINES = (
    "machine 2 2",
    "first 1 -3/2",
    "last 0 5/3",
    "step 0 0 4 0",
    "step 0 1 1/2 -10",
    "step 1 0 0 1",
    "step 1 1 -7/12 100/9",
)
NOTE = "".join(line + "\n" for line in LINES)
ALPHABET = "\t\n" + "".join(chr(code) for code in range(ord(" "), ord("~") + 1) if chr(code) != "%")


def note_of(lines):
    return "".join(line + "\n" for line in lines)


def note_with(number, room=0):
    """A note of one sign and two rooms with this number at one place of each line's numbers."""
    numbers = " ".join((number, "1") if room == 0 else ("1", number))
    return f"machine 2 1\nfirst 1 1\nlast 1 1\nstep 0 0 1 1\nstep 0 1 {numbers}\n"


class Shown(unittest.TestCase):
    def test_sign_by_sign(self):
        self.assertEqual(shown(MACHINE), NOTE)
        self.assertEqual(
            shown((((1, 2),), ((((-1, 3),),), (((7, 1),),), ((NIL,),)), ((-2, 1),))),
            "machine 1 3\nfirst 1/2\nlast -2\nstep 0 0 -1/3\nstep 1 0 7\nstep 2 0 0\n",
        )

    def test_no_rooms(self):
        for signs in (1, 2, 3, 4):
            self.assertEqual(shown(empty_machine(signs)), f"machine 0 {signs}\nfirst\nlast\n")

    def test_rooms_of_two_figures(self):
        lines = shown(one_number_machine((-1, 2), 24, 4)).split("\n")
        self.assertEqual(lines[0], "machine 24 4")
        self.assertEqual(lines[1], "first" + " -1/2" * 24)
        self.assertEqual(lines[3 + 3 * 24 + 23], "step 3 23" + " -1/2" * 24)
        self.assertEqual(lines[3 + 4 * 24:], [""])

    def test_long_numbers(self):
        for figures in (17, 18, 19, 30, 31, 36, 37, 5000):
            top = int("9" * 9) * 10 ** (figures - 9) + 7
            for number, text in (((top, 1), f"{'9' * 9}{'0' * (figures - 10)}7"),
                                 ((-top - 1, 10 ** figures + 1), f"-{'9' * 9}{'0' * (figures - 10)}8/1{'0' * (figures - 1)}1")):
                self.assertEqual(
                    shown(one_number_machine(number, 1, 1)),
                    f"machine 1 1\nfirst {text}\nlast {text}\nstep 0 0 {text}\n",
                )

    def test_what_is_handed_in_stays(self):
        machine = chance_machine(150, 3, 2)
        text = shown(machine)
        self.assertIs(type(text), str)
        self.assertEqual(machine, chance_machine(150, 3, 2))
        self.assertEqual(shown(machine), text)


class Read(unittest.TestCase):
    def check_back(self, machine):
        back = read(shown(machine))
        self.assertEqual(back, machine)
        check_machine(self, back)
        self.assertEqual(looked(back), (len(machine[0]), len(machine[1])))

    def test_told_note(self):
        self.assertEqual(read(NOTE), MACHINE)
        self.check_back(MACHINE)

    def test_back_again(self):
        for rooms in (0, 1, 2, 3, 11, 24):
            for signs in (1, 2, 3, 4):
                for figures in (1, 2, 30):
                    self.check_back(chance_machine(151, rooms, signs, figures))
                self.check_back(sparse_machine(152, rooms, signs))

    def test_thirty_figures(self):
        most = "9" * 30
        for number in (most, f"-{most}", f"1{'0' * 29}", f"1/{most}", f"-{most}/{'9' * 29}8", f"{'9' * 29}8/{most}"):
            for room in (0, 1):
                text = note_with(number, room)
                self.assertEqual(shown(read(text)), text)

    def test_every_number_that_is_written_as_told(self):
        for number in ("0", "1", "-1", "10", "-10", "1/2", "-1/2", "10/3", "3/10", "-100/101"):
            text = note_with(number)
            self.assertEqual(shown(read(text)), text)


class Refused(unittest.TestCase):
    def check_refused(self, text):
        with self.subTest(text=text):
            with self.assertRaises(BadNote) as caught:
                read(text)
            self.assertIsInstance(caught.exception, WeighError)
            self.assertIsInstance(caught.exception, ValueError)
            self.assertNotIsInstance(caught.exception, NoMachine)

    def test_no_text_at_all(self):
        for text in ("", "\n", " ", "\t", "\n\n\n\n", "x", "0", "machine", "machine\n", "machine 1 1", "machine 1 1\n"):
            self.check_refused(text)

    def test_first_line(self):
        for line in (
            "", "machine", "machine 2", "machine 2 2 2", "Machine 2 2", "machines 2 2", " machine 2 2", "machine 2 2 ",
            "machine  2 2", "machine 2  2", "machine\t2 2", "machine 02 2", "machine 2 02", "machine +2 2",
            "machine 2 +2", "machine -2 2", "machine 2 -2", "machine 2/1 2", "machine 2.0 2", "machine 1 2",
            "machine 3 2", "machine 2 1", "machine 2 3", "machine 2 0", "machine 0 2", "machine 2 x", "machine x 2",
            "2 2", "machine2 2", "step 2 2", "machine 2 2\r", "machine 4 1", "machine 1 4", f"machine 2 {'9' * 5000}",
            f"machine {'9' * 5000} 2", f"machine {'9' * 30} 2", "machine 2_0 2", "machine \u0662 2", "machine \u00b2 2",
        ):
            self.check_refused(note_of((line,) + LINES[1:]))

    def test_numbers_of_rooms_and_signs(self):
        for rooms, signs in ((25, 1), (25, 4), (40, 1), (0, 0), (0, 5), (1, 0), (1, 5), (2, 5), (24, 5), (2, 10)):
            self.check_refused(shown(one_number_machine((1, 2), rooms, signs)))

    def test_lines_left_out_or_told_twice(self):
        for place, line in enumerate(LINES):
            self.check_refused(note_of(LINES[:place] + LINES[place + 1:]))
            self.check_refused(note_of(LINES[:place] + (line, line) + LINES[place + 1:]))
            self.check_refused(note_of(LINES[:place]))
            self.check_refused(note_of(LINES[:place] + ("",) + LINES[place:]))
            for other in range(len(LINES)):
                if other != place:
                    self.check_refused(note_of(LINES[:other] + (line,) + LINES[other + 1:]))
        self.check_refused(NOTE + NOTE)

    def test_lines_in_another_order(self):
        for one in range(len(LINES)):
            for other in range(one):
                lines = list(LINES)
                lines[one], lines[other] = lines[other], lines[one]
                self.check_refused(note_of(lines))
        chance = Random(153)
        for turn in range(100):
            lines = chance.sample(LINES, len(LINES))
            if tuple(lines) != LINES:
                self.check_refused(note_of(lines))

    def test_line_ends(self):
        self.check_refused(NOTE[:-1])
        self.check_refused(NOTE + "\n")
        self.check_refused("\n" + NOTE)
        self.check_refused(NOTE.replace("\n", "\r\n"))
        self.check_refused(NOTE.replace("\n", "\r"))
        self.check_refused(NOTE.replace("\n", " "))
        self.check_refused(NOTE[:-1] + "\x0b")
        self.check_refused(NOTE[:-1] + "\u2028")
        for place, sign in enumerate(NOTE):
            if sign == "\n":
                self.check_refused(NOTE[:place] + NOTE[place + 1:])
                self.check_refused(NOTE[:place] + "\n" + NOTE[place:])
                self.check_refused(NOTE[:place] + " " + NOTE[place + 1:])

    def test_blanks(self):
        for place in range(len(NOTE) + 1):
            self.check_refused(NOTE[:place] + "\t" + NOTE[place:])
            if place == len(NOTE) or NOTE[place] in " \n" or place == 0 or NOTE[place - 1] in " \n":
                self.check_refused(NOTE[:place] + " " + NOTE[place:])
            if place < len(NOTE) and NOTE[place] == " ":
                self.check_refused(NOTE[:place] + NOTE[place + 1:])
                self.check_refused(NOTE[:place] + "\t" + NOTE[place + 1:])
        for note in ("machine 0 1\nfirst \nlast\n", "machine 0 1\nfirst\nlast \n", "machine 0 1\nfirst 0\nlast 0\n"):
            self.check_refused(note)

    def test_a_number_more_or_less(self):
        for place, line in enumerate(LINES):
            words = line.split(" ")
            for turn in range(len(words)):
                fewer = " ".join(words[:turn] + words[turn + 1:])
                more = " ".join(words[:turn] + words[turn:turn + 1] + words[turn:])
                for changed in (fewer, more):
                    self.check_refused(note_of(LINES[:place] + (changed,) + LINES[place + 1:]))

    def test_names_of_lines(self):
        for place, names in ((1, ("last", "First", "firs", "first:", "1")), (2, ("first", "Last", "las", "1"))):
            for name in names:
                line = " ".join([name] + LINES[place].split(" ")[1:])
                self.check_refused(note_of(LINES[:place] + (line,) + LINES[place + 1:]))
        for heading in ("step 0 1", "step 1 0", "step 00 0", "step 0 00", "step +0 0", "step -0 0", "steps 0 0", "Step 0 0",
                        "step 0/1 0", "step 2 0", "step 0 2", "0 0", "step 0", "step"):
            line = heading + LINES[3][len("step 0 0"):]
            self.check_refused(note_of(LINES[:3] + (line,) + LINES[4:]))

    def test_numbers(self):
        for number in (
            "2/4", "-2/4", "6/3", "10/5", "3/3", "0/2", "0/1", "0/7", "-0", "-0/1", "-0/3", "4/1", "-4/1", "1/0", "0/0",
            "-1/0", "00", "01", "-01", "007", "1/02", "01/2", "1/-2", "-1/-2", "1/+2", "+1", "+0", "+1/2", "--1", "-",
            "/", "1/", "/2", "-/2", "1//2", "1/2/3", "1/2/", "1.0", "1.5", ".5", "1e3", "1_0", "0x1", "x", "1x", "x1",
            "1,2", "(1,2)", "- 1", "1/ 2", "1 /2", "", "nan", "inf", "None", "\u0661", "\u00b2", "\u00bd", "\uff11",
            "1/\u0662", "\u22121", "1\u0660", "~", "1-", "1/2-", "-1/2-", "\x001", "1\x00",
        ):
            for room in (0, 1):
                self.check_refused(note_with(number, room))
                self.check_refused(NOTE.replace("-3/2", number))
                self.check_refused(NOTE.replace("5/3", number))

    def test_more_than_thirty_figures(self):
        more = "1" + "0" * 30
        for number in (more, f"-{more}", f"1/{more}", f"-1/{more}", f"{more}/3", f"-{more}/3", f"{more}/1{'0' * 29}1",
                       "0" * 31, "1" * 32, "9" * 5000, f"-{'9' * 5000}", f"1/{'9' * 5000}"):
            for room in (0, 1):
                self.check_refused(note_with(number, room))
        self.check_refused(shown(one_number_machine((10 ** 30, 1), 2, 2)))
        self.check_refused(shown(one_number_machine((1, 10 ** 5000), 2, 2)))

    def check_refused_or_just_so(self, text):
        try:
            machine = read(text)
        except BadNote:
            return
        check_machine(self, machine)
        self.assertEqual(shown(machine), text)

    def test_one_sign_changed(self):
        notes = (NOTE, shown(empty_machine(2)), shown(one_number_machine((12, 35), 1, 1)))
        for note in notes:
            for place in range(len(note) + 1):
                self.check_refused_or_just_so(note[:place] + note[place + 1:])
                self.check_refused_or_just_so(note[:place] + note[place:place + 1] * 2 + note[place + 1:])
                for sign in ALPHABET:
                    self.check_refused_or_just_so(note[:place] + sign + note[place:])
                    self.check_refused_or_just_so(note[:place] + sign + note[place + 1:])

    def test_chance_texts(self):
        chance = Random(154)
        pieces = LINES + tuple(NOTE.replace("\n", " \n ").split(" ")) + (" ", "\n", "/", "-", "0", "1")
        for turn in range(2000):
            text = "".join(chance.choice(pieces) + chance.choice(("", " ", "\n")) for piece in range(chance.randrange(12)))
            self.check_refused_or_just_so(text)


if __name__ == "__main__":
    unittest.main()
