"""Points 78 to 81: written forms, and reading them."""

import itertools
import random
import unittest

from drawingoffice.binders import Binder
from drawingoffice.changes import Change
from drawingoffice.errors import BadChange, BadLine, DuplicateName, NoStore, UnknownChange, UnknownName, UnknownStart
from drawingoffice.joints import joined
from drawingoffice.parsing import read_binder, read_fact, read_limit, read_program
from drawingoffice.programs import Program
from drawingoffice.sheets import Sheet
from drawingoffice.writing import write_binder, write_fact, write_limit, write_program
from small_cards import raised
from small_offices import random_facts
from small_programs import STOP, make_office, random_joint, random_program
from small_shops import random_shop

GREAT = 10 ** 60 - 1
LIMITS = {
    "room p frame =abba 2 1*m -3*n": ("room", "p", "frame", "abba", (2, (("m", 1), ("n", -3)))),
    "reach p q 0": ("reach", "p", "q", (0, ())),
    "room frame p2 = -5": ("room", "frame", "p2", "", (-5, ())),
    "room p q ==;*=: 10 -1*frames": ("room", "p", "q", "=;*=:", (10, (("frames", -1),))),
    "reach p m 7 12*m": ("reach", "p", "m", (7, (("m", 12),))),
    f"reach p q {GREAT} {-GREAT}*m": ("reach", "p", "q", (GREAT, (("m", -GREAT),))),
}
FACTS = {
    "goes main": ("goes", ("main",)), "fails main +a -b": ("fails", ("main", "+a", "-b")),
    "alike main +a = q": ("alike", ("main", "+a"), ("q",)), "apart q = q": ("apart", ("q",), ("q",)),
    "goes goes": ("goes", ("goes",)), "alike frame = has +sheet": ("alike", ("frame",), ("has", "+sheet")),
}
BAD_NUMBERS = ["", "-", "00", "01", "-0", "-01", "+1", "1 ", "--1", "1.0", "0x1", "1e3", "a", "1_0", str(GREAT + 1),
               str(-GREAT - 1), "0" * 61]


class Limits(unittest.TestCase):
    def test_written_and_read(self):
        for text, limit in LIMITS.items():
            self.assertEqual((write_limit(limit), read_limit(text)), (text, limit))

    def test_what_is_no_limit(self):
        for text in ["", " ", "room", "reach p q", "reach p q  0", " reach p q 0", "reach p q 0 ", "reach p p 0",
                     "reach p q 0\n", "\nreach p q 0", "Reach p q 0", "reach P q 0", "reach p 1q 0", "reach  q 0",
                     "room p q 0", "room p q a 0", "room p q = ", "room p q =", "room p q 0 =", "room p q =a b 0",
                     "room p q =a%b 0", "room p q =a\n 0", "reach p q 0 m", "reach p q 0 1*", "reach p q 0 *m",
                     "reach p q 0 1*M", "reach p q 0 1*frame", "reach p q 0 0*m", "reach p q 0 1*n 1*m",
                     "reach p q 0 1*m 1*m", "reach p q 0 1*m*n", "reach p q 0 1*m ", "reach p q =a 0", "goes main",
                     "has reach p q 0", "reach p q 0 = 1", "reach a234567890123 q 0", "reach p q m", "reach p q 1*m"]:
            self.assertEqual(raised(read_limit, text), (BadLine, {"line": 1}), text)

    def test_numbers(self):
        for word, number in [("0", 0), ("7", 7), ("-7", -7), ("10", 10), (str(GREAT), GREAT), (str(-GREAT), -GREAT),
                             ("1" + "0" * 59, 10 ** 59)]:
            self.assertEqual(read_limit(f"reach p q {word}"), ("reach", "p", "q", (number, ())))
            if number:
                self.assertEqual(read_limit(f"room p q = 1 {word}*m"), ("room", "p", "q", "", (1, (("m", number),))))
        for word in BAD_NUMBERS:
            for text in [f"reach p q {word}", f"room p q = {word}", f"reach p q 1 {word}*m", f"room p q = 1 1*l {word}*m"]:
                self.assertEqual(raised(read_limit, text), (BadLine, {"line": 1}), text)

    def test_each_change_of_a_sign_is_another_form_or_none(self):
        for text, limit in LIMITS.items():
            for at, sign in itertools.product(range(len(text) + 1), " =*-0mp+A\n"):
                for changed in [text[:at] + sign + text[at:], text[:at] + sign + text[at + 1:], text[:at] + text[at + 1:]]:
                    told = raised(read_limit, changed)
                    if told is None:
                        self.assertEqual(write_limit(read_limit(changed)), changed)
                    else:
                        self.assertEqual(told, (BadLine, {"line": 1}))


class Facts(unittest.TestCase):
    def test_written_and_read(self):
        for text, fact in FACTS.items():
            self.assertEqual((write_fact(fact), read_fact(text)), (text, fact))
        for seed in range(50):
            for fact in random_facts(seed, ["main", "q"], ["a", "b"], most=3, longest=4):
                self.assertEqual(read_fact(write_fact(fact)), fact)

    def test_what_is_no_fact(self):
        for text in ["", "goes", "goes ", "goes main ", " goes main", "goes  main", "goes Main", "goes +a", "goes main a",
                     "goes main + a", "goes main +a\n", "goes main = q", "fails", "alike main", "alike main =",
                     "alike = q", "alike main q", "alike main = q = q", "apart main == q", "apart main  = q", "none main",
                     "goes main +a234567890123", "alike main +a =  q", "reach p q 0", "go main"]:
            self.assertEqual(raised(read_fact, text), (BadLine, {"line": 1}), text)


SHORT, LONG = ("reach", "p", "frame", (5, ())), ("reach", "p", "frame", (7, ()))
ROOM = ("room", "p", "frame", "aa", (0, (("m", 2),)))
OTHER = ("room", "p", "q", "", (-1, ()))
BINDER = Binder({"z": Sheet([]), "main": Sheet([SHORT, ROOM]), "fix": Sheet([ROOM])},
                {"old": Change([LONG]), "fix": Change([SHORT], [LONG], kept=[ROOM], barred=[OTHER]),
                 "none": Change.nowhere(), "same": Change()},
                [("goes", ("main", "+fix", "+old")), ("alike", ("z", "+same"), ("z",)), ("fails", ("z", "+fix")),
                 ("apart", ("main",), ("z",))])
TEXT = """\
sheet fix
has room p frame =aa 0 2*m
sheet main
has reach p frame 5
has room p frame =aa 0 2*m
sheet z
change fix
lost reach p frame 5
gained reach p frame 7
kept room p frame =aa 0 2*m
barred room p q = -1
void none
change old
lost reach p frame 7
change same
goes main +fix +old
alike z +same = z
fails z +fix
apart main = z
"""


def described(binder):
    changes = {name: (change.lost, change.gained, change.kept, change.barred, change.is_void)
               for name, change in binder.changes.items()}
    return {name: list(sheet) for name, sheet in binder.drawings.items()}, changes, binder.facts


class Binders(unittest.TestCase):
    def bad(self, line, *lines):
        text = "".join(one + "\n" for one in lines)
        self.assertEqual(raised(read_binder, text), (BadLine, {"line": line}), lines)

    def good(self, *lines):
        return read_binder("\n".join(lines))

    def test_written_and_read(self):
        self.assertEqual(write_binder(BINDER), TEXT)
        self.assertEqual(described(read_binder(TEXT)), described(BINDER))
        # The last line may lack its newline.
        self.assertEqual(described(read_binder(TEXT[:-1])), described(BINDER))

    def test_no_lines(self):
        self.assertEqual(write_binder(Binder({}, {}, [])), "")
        self.assertEqual(described(read_binder("")), ({}, {}, []))
        self.bad(1, "")
        self.assertEqual(raised(read_binder, "\n"), (BadLine, {"line": 1}))
        self.assertEqual(raised(read_binder, "sheet main\n\n"), (BadLine, {"line": 2}))
        self.assertEqual(raised(read_binder, TEXT + "\n"), (BadLine, {"line": TEXT.count("\n") + 1}))

    def test_other_orders(self):
        binder = self.good("sheet z", "has reach p frame 7", "has reach p frame 5", "has reach p frame 7", "sheet main",
                           "void y", "change b", "barred reach p frame 7", "lost reach p frame 5", "change a",
                           "goes z", "fails z +b", "goes main")
        self.assertEqual(described(binder), ({"main": [], "z": [SHORT, LONG]}, {
            "a": ([], [], [], [], False), "b": ([SHORT], [], [], [LONG], False), "y": ([], [], [], [], True)},
            [("goes", ("z",)), ("fails", ("z", "+b")), ("goes", ("main",))]))
        # A start and a revision may have the same name, and words are names, too.
        self.assertEqual(list(self.good("sheet has", "change has", "goes has").changes), ["has"])
        self.assertEqual(list(self.good("sheet frame", "void sheet").drawings), ["frame"])

    def test_lines_in_no_form(self):
        for line in ["", " ", "sheet", "sheet ", "sheet a b", "sheet A", "sheet +a", " sheet a", "sheets a", "change",
                     "change 1", "void", "void a b", "has", "has reach p q", "has  reach p q 0", "has goes main",
                     "lost", "gained reach p p 0", "kept x", "barred reach p q 00", "goes", "goes main +", "hello",
                     "change " + "a" * 13, "alike main", "has reach p q " + "1" * 61]:
            self.bad(2, "sheet main", line, "junk")
            self.bad(1, line)
            self.bad(3, "change b", "lost reach p q 0", line, "has")

    def test_has_lines(self):
        has = "has reach p q 0"
        self.bad(1, has)
        for before in [("change b",), ("void b",), ("goes main",), ("change b", "lost reach p q 0")]:
            self.bad(2 + len(before), "sheet main", *before, has)
        self.good("sheet main", has, has, "has reach q p 0")

    def test_touched_limits(self):
        for word in ["lost", "gained", "kept", "barred"]:
            touch = word + " reach p q 0"
            self.bad(1, touch)
            for before in [("void b",), ("goes main",), ("has reach p q 0",), ("change b", "goes main"),
                           ("change b", "void c"), ()]:
                self.bad(2 + len(before), "sheet main", *before, touch)
            for other in ["lost", "gained", "kept", "barred"]:
                self.good("change b", touch, other + " reach p q 1", touch, "change c", touch)

    def test_sheets_come_first_and_facts_last(self):
        for before in ["change b", "void b", "goes main"]:
            self.bad(3, "sheet main", before, "sheet z")
        self.bad(4, "sheet main", "change b", "lost reach p q 0", "sheet z")
        for line in ["change b", "void b"]:
            self.bad(3, "sheet main", "goes main", line)
            self.bad(4, "sheet main", "fails main +c", "goes main", line)

    def test_names_that_come_twice(self):
        self.bad(2, "sheet main", "sheet main")
        self.bad(3, "sheet main", "has reach p q 0", "sheet main")
        for one, two in itertools.product(["change b", "void b"], repeat=2):
            self.bad(2, one, two)
            self.bad(3, one, "change c", two)

    def test_the_first_bad_line_counts(self):
        self.bad(2, "sheet main", "has", "goes nowhere", "sheet main")
        self.bad(3, "change b", "lost reach p q 0", "sheet main", "lost x")
        # A line that is bad comes before all that the objects themselves refuse.
        self.bad(4, "change b", "lost reach p q 0", "gained reach p q 0", "x")
        self.bad(2, "goes nowhere", "x")

    def test_errors_of_the_objects(self):
        same = "reach p q 0"
        limit = ("reach", "p", "q", (0, ()))
        for one, two in itertools.permutations(["lost", "gained", "kept", "barred"], 2):
            self.assertEqual(raised(self.good, "change b", one + " " + same, two + " " + same, "goes no"),
                             (BadChange, {"limit": limit}))
        # The changes are made in the order of their lines, before the binder.
        first, second = "reach p q 1", "reach p q 2"
        self.assertEqual(raised(self.good, "change z", "lost " + first, "kept " + first, "change a", "lost " + second,
                                "kept " + second, "goes no"), (BadChange, {"limit": ("reach", "p", "q", (1, ()))}))
        self.assertEqual(raised(self.good, "change z", "kept " + first, "lost " + second, "kept " + second, "lost " + first),
                         (BadChange, {"limit": ("reach", "p", "q", (1, ()))}))
        self.assertEqual(raised(self.good, "sheet main", "goes no +x"), (UnknownStart, {"name": "no"}))
        self.assertEqual(raised(self.good, "sheet main", "goes main +x"), (UnknownChange, {"name": "x"}))
        self.assertEqual(raised(self.good, "sheet main", "change a", "goes main +a", "fails main +a"),
                         (NoStore, {"at": 1, "by": 1}))

    def test_each_line_changed_in_one_place(self):
        lines = TEXT.split("\n")[:-1]
        for at, line in enumerate(lines):
            for changed in [line + " ", " " + line, line.replace(" ", "  ", 1), line.upper(), line + "\t", "x" + line]:
                self.bad(at + 1, *lines[:at], changed, *lines[at + 1:])
            words = line.split(" ")
            if words[0] in ("sheet", "change", "void"):
                self.bad(at + 2, *lines[:at + 1], line, *lines[at + 1:])
                self.bad(at + 1, *lines[:at], words[0], *lines[at + 1:])

    def test_random_binders(self):
        for seed in range(300):
            office = random_shop(seed)
            if office is not None:
                text = write_binder(office.binder)
                self.assertEqual(described(read_binder(text)), described(office.binder))
                self.assertEqual(write_binder(read_binder(text)), text)


DEFINITIONS = [
    ("main", (), ("do", "+fix", ("call", "twice", (("make", ("k",), ("call", "k", ())), ("make", (), STOP))))),
    ("twice", (("f", 1), ("x", 0)), ("call", "f", (("make", (), ("call", "f", (("use", "x"),))),))),
    ("all", (("g", 3),), ("choose", (STOP, ("when", (0, 12), ("mode", (), ("do", "release", STOP))),
                                     ("shows", ("room", "p", "q", ";", (-1, (("m", 2),))), ("do", "-fix", STOP)),
                                     ("shows", ("reach", "p", "q", (0, ())), ("choose", (STOP,))),
                                     ("call", "g", (("use", "main"), ("make", (), STOP), ("use", "main")))))),
    ("stop", (), ("call", "stop", ())),
]
WRITTEN = """\
def main : do +fix call twice 2 make 1 k call k 0 make 0 stop
def twice f/1 x/0 : call f 1 make 0 call f 1 use x
def all g/3 : choose 5 stop when 2 0 12 mode 0 do release stop shows room p q =; -1 2*m ; do -fix stop \
shows reach p q 0 ; choose 1 stop call g 3 use main make 0 stop use main
def stop : call stop 0
"""


class Programs(unittest.TestCase):
    def bad(self, line, *lines):
        text = "".join(one + "\n" for one in lines)
        self.assertEqual(raised(read_program, text), (BadLine, {"line": line}), lines)

    def test_written_and_read(self):
        self.assertEqual(write_program(Program(DEFINITIONS)), WRITTEN)
        self.assertEqual(list(read_program(WRITTEN)), DEFINITIONS)
        self.assertEqual(list(read_program(WRITTEN[:-1])), DEFINITIONS)
        # The example of the document.
        twice = ("twice", (("x", 0),), ("call", "x", ()))
        told = read_program("def main : do +fix call twice 1 make 0 stop\ndef twice x/0 : call x 0\n")
        self.assertEqual(list(told), [("main", (), ("do", "+fix", ("call", "twice", (("make", (), STOP),)))), twice])

    def test_no_lines(self):
        self.assertEqual((write_program(Program([])), list(read_program(""))), ("", []))
        self.bad(1, "")
        self.bad(2, "def main : stop", "")

    def test_states_may_be_any_numbers(self):
        program = Program([("main", (), ("when", (-1, GREAT), ("mode", (-GREAT,), STOP)))])
        text = f"def main : when 2 -1 {GREAT} mode 1 -{GREAT} stop\n"
        self.assertEqual((write_program(program), list(read_program(text))), (text, list(program)))

    def test_lines_in_no_form(self):
        for line in ["", "def", "def main", "def main :", "def main : stop ", " def main : stop", "def main  : stop",
                     "def main: stop", "Def main : stop", "def Main : stop", "def 1 : stop", "main : stop", "def : stop",
                     "def main x : stop", "def main x/ : stop", "def main /0 : stop", "def main x/-1 : stop",
                     "def main x/00 : stop", "def main x/1/1 : stop", "def main X/0 : stop", "def main x/0 stop",
                     "def main x/" + "1" * 61 + " : stop", "def main : : stop", "def main : halt", "def main : stop stop",
                     "def main : do", "def main : do a", "def main : do +A stop", "def main : do + stop",
                     "def main : do a stop b", "def main : choose", "def main : choose 0", "def main : choose 0 stop",
                     "def main : choose -1 stop", "def main : choose 2 stop", "def main : choose 1 stop stop",
                     "def main : choose stop", "def main : choose 01 stop", "def main : when stop", "def main : when 1 stop",
                     "def main : when 1 0", "def main : when -1 stop", "def main : when 2 0 stop", "def main : mode 1 a stop",
                     "def main : mode 0", "def main : when 1 -0 stop", "def main : when 1 " + "1" * 61 + " stop",
                     "def main : shows stop", "def main : shows reach p q 0 stop", "def main : shows reach p q 0 ;",
                     "def main : shows reach p p 0 ; stop", "def main : shows ; stop", "def main : shows reach p q ; stop",
                     "def main : shows reach p q 0 ; ; stop", "def main : call", "def main : call main",
                     "def main : call main -1", "def main : call main 1", "def main : call Main 0",
                     "def main : call main 1 stop", "def main : call main 1 use", "def main : call main 1 use A",
                     "def main : call main 1 make stop", "def main : call main 1 make 1 stop",
                     "def main : call main 1 make 0", "def main : call main 1 make -1 stop",
                     "def main : call main 1 make 1 A stop", "def main : call main 0 stop", "def main : call main 2 use a",
                     "def main : call main 1 call main 0", "def main : choose " + "9" * 60 + " stop",
                     "def main : call main " + "9" * 60, "sheet main", "goes main"]:
            self.bad(1, line)
            self.bad(2, "def one : stop", line, "junk")

    def test_a_name_may_be_a_word(self):
        text = "def def : call make 1 make 0 do stop call use 0\ndef make use/0 : call use 0\ndef use2 : stop\n"
        self.bad(1, "def def : do use stop stop")
        self.assertEqual(raised(read_program, text), (UnknownName, {"name": "use"}))
        text = "def def : call make 1 make 0 do stop call stop 0\ndef make use/0 : call use 0\ndef stop : stop\n"
        self.assertEqual(write_program(read_program(text)), text)

    def test_numbers_with_60_and_with_61_digits(self):
        text = f"def main : when 1 {GREAT} stop"
        self.assertEqual(read_program(text)["main"][2], ("when", (GREAT,), STOP))
        self.bad(1, f"def main : when 1 {GREAT + 1} stop")
        self.bad(1, f"def main : shows reach p q {GREAT + 1} ; stop")

    def test_errors_of_the_program(self):
        self.assertEqual(raised(read_program, "def a : stop\ndef a : call b 0"), (DuplicateName, {"name": "a"}))
        self.assertEqual(raised(read_program, "def a : call b 0"), (UnknownName, {"name": "b"}))
        # A line that is bad comes first.
        self.bad(3, "def a : stop", "def a : call b 0", "def c : ")

    def test_each_line_changed_in_one_place(self):
        lines = WRITTEN.split("\n")[:-1]
        for at, line in enumerate(lines):
            words = line.split(" ")
            for changed in [line + " stop", line + " ", " " + line, "x" + line, line.replace(" : ", " :: "),
                            " ".join(words[:-1]), " ".join(words[1:])]:
                self.bad(at + 1, *lines[:at], changed, *lines[at + 1:])

    def test_random_programs(self):
        for seed in range(300):
            joint = random_joint(seed, contents=3, modes=2)
            program = random_program(seed, joint, definitions=4, depth=4, modes=2, counts=((), (0,), (1,), (2, 0)))
            text = write_program(program)
            self.assertEqual(list(read_program(text)), list(program))
            self.assertEqual(write_program(read_program(text)), text)

    def test_random_changes_of_a_text(self):
        chance, goods = random.Random(7), 0
        signs = " 0123abx:/;=*+-"
        for _ in range(3000):
            text = list(WRITTEN[:-1])
            text[chance.randrange(len(text))] = chance.choice(signs)
            text = "".join(text)
            try:
                program = read_program(text)
            except ValueError as error:
                self.assertNotEqual(type(error), ValueError)
                continue
            goods += 1
            self.assertEqual(write_program(program), text + "\n")
        self.assertGreater(goods, 30)

    def test_an_office_takes_what_is_read(self):
        office = make_office(read_program("def main : choose 2 stop do release stop"))
        self.assertEqual(joined(office, "main").events, ["release"])


if __name__ == "__main__":
    unittest.main()
