"""Points 57 to 59: programs."""

import unittest

from drawingoffice.errors import DuplicateName, UnknownName, WrongArguments
from drawingoffice.programs import Program
from small_cards import raised
from small_programs import RELEASE, STOP


def call(name, *args):
    return ("call", name, args)


def use(name):
    return ("use", name)


def make(names, body):
    return ("make", tuple(names.split()), body)


MAIN = ("main", (), STOP)
TWICE = ("twice", (("f", 1), ("x", 0)), call("f", make("", call("f", use("x")))))
PICK = ("pick", (("x", 0), ("y", 0)), ("choose", (call("x"), call("y"))))
STEP = ("step", (("k", 0),), ("do", "+a", call("k")))


class Programs(unittest.TestCase):
    def right(self, *definitions):
        self.assertEqual(list(Program(definitions)), list(definitions))

    def wrong(self, error, name, *definitions):
        self.assertEqual(raised(Program, list(definitions)), (error, {"name": name}))

    def test_no_definitions_and_twenty(self):
        self.assertEqual((list(Program([])), Program([]).names), ([], []))
        many = [("d" + str(at), (), call("d" + str((at + 1) % 20))) for at in range(20)]
        self.assertEqual(Program(many).names, ["d" + str(at) for at in range(20)])

    def test_parameters(self):
        four = ("four", (("a", 0), ("b", 1), ("c", 2), ("d", 3)),
                ("choose", (call("a"), call("b", use("a")), call("c", use("a"), use("a")),
                            call("d", use("a"), use("a"), make("", STOP)),
                            call("four", use("a"), use("b"), use("c"), use("d")))))
        self.right(four)
        self.right(four, MAIN, ("go", (), call("four", use("main"), make("k", call("k")), make("m n", call("n")),
                                               make("r s t", STOP))))
        self.right(("none", (), call("none")))

    def test_bodies(self):
        self.right(("main", (), ("choose", (STOP,))))
        self.right(("main", (), ("when", (0, 3), ("mode", (), ("shows", ("reach", "p", "q", (1, ())), RELEASE)))))
        self.right(TWICE, STEP, PICK, ("main", (), call("twice", use("step"), use("main"))))
        deep = STOP
        for _ in range(30):
            deep = ("do", "+a", deep)
        self.right(("main", (), deep))

    def test_closures_use_the_names_around_them(self):
        body = call("twice", make("k", call("pick", use("k"), make("", call("pick", use("u"), use("k"))))), use("u"))
        self.right(TWICE, PICK, ("outer", (("u", 0),), body))
        self.right(("outer", (("g", 2),), call("g", make("", call("g", make("", STOP), make("", STOP))), make("", STOP))))

    def test_names_of_definitions_come_first(self):
        self.wrong(DuplicateName, "main", MAIN, ("main", (("x", 0),), STOP))
        self.wrong(DuplicateName, "main", ("main", (("main", 0), ("main", 0)), call("no")), MAIN)
        self.wrong(DuplicateName, "b", ("a", (), call("no")), ("b", (), STOP), ("b", (), STOP), ("a", (), STOP))

    def test_a_parameter_has_a_new_name(self):
        self.wrong(DuplicateName, "main", MAIN, ("go", (("main", 0),), STOP))
        self.wrong(DuplicateName, "later", ("go", (("later", 0),), STOP), ("later", (), STOP))
        self.wrong(DuplicateName, "go", ("go", (("go", 0),), STOP))
        self.wrong(DuplicateName, "x", ("go", (("x", 0), ("y", 0), ("x", 1)), STOP))
        self.wrong(DuplicateName, "x", ("go", (("x", 0), ("x", 1)), call("no")))
        self.right(("go", (("x", 0),), STOP), ("ga", (("x", 1),), STOP))

    def test_a_closure_binds_new_names(self):
        hold = ("hold", (("f", 1), ("g", 1)), STOP)
        self.wrong(DuplicateName, "x", hold, ("go", (("x", 0),), call("hold", make("x", STOP), make("y", STOP))))
        self.wrong(DuplicateName, "hold", hold, ("go", (), call("hold", make("y", STOP), make("hold", STOP))))
        # Not in scope any more, but bound before in the same definition.
        self.wrong(DuplicateName, "y", hold, ("go", (), call("hold", make("y", STOP), make("y", STOP))))
        self.wrong(DuplicateName, "y", hold, ("go", (), ("choose", (
            call("hold", make("y", STOP), make("z", STOP)), call("hold", make("u", STOP), make("y", STOP))))))
        two = ("two", (("f", 2),), STOP)
        self.wrong(DuplicateName, "y", two, ("go", (), call("two", make("y y", STOP))))
        self.right(two, ("go", (), call("two", make("y z", STOP))), ("ga", (), call("two", make("y z", call("z")))))

    def test_what_is_called_is_known(self):
        self.wrong(UnknownName, "no", ("main", (), call("no")))
        self.wrong(UnknownName, "no", ("main", (), call("no", use("none"))))
        self.wrong(UnknownName, "x", ("go", (("x", 0),), STOP), ("main", (), call("x")))
        hold = ("hold", (("f", 1), ("x", 0)), STOP)
        self.wrong(UnknownName, "k", hold, ("main", (), call("hold", make("k", STOP), make("", call("k")))))
        self.wrong(UnknownName, "k", hold, ("main", (), call("hold", make("k", STOP), use("k"))))
        self.wrong(UnknownName, "k", hold, ("main", (), call("k")))

    def test_the_number_of_arguments(self):
        self.wrong(WrongArguments, "main", ("main", (), call("main", use("no"))))
        self.wrong(WrongArguments, "step", STEP, ("main", (), call("step")))
        self.wrong(WrongArguments, "step", STEP, ("main", (), call("step", make("", STOP), use("no"))))
        self.wrong(WrongArguments, "x", ("go", (("x", 0),), call("x", use("no"))))
        self.wrong(WrongArguments, "g", ("go", (("g", 2),), call("g", make("", STOP))))
        self.wrong(WrongArguments, "g", ("go", (("g", 1),), call("g")))
        hold = ("hold", (("f", 1),), STOP)
        self.wrong(WrongArguments, "k", hold, ("go", (), call("hold", make("k", call("k", use("no"))))))

    def test_the_kinds_of_arguments(self):
        self.wrong(WrongArguments, "twice", TWICE, MAIN, ("go", (), call("twice", use("main"), use("main"))))
        self.wrong(WrongArguments, "twice", TWICE, STEP, ("go", (), call("twice", use("step"), use("step"))))
        self.wrong(WrongArguments, "twice", TWICE, PICK, ("go", (), call("twice", use("pick"), use("go"))))
        self.wrong(WrongArguments, "twice", TWICE, ("go", (("x", 0),), call("twice", use("x"), use("x"))))
        self.wrong(WrongArguments, "twice", TWICE, ("go", (("g", 2),), call("twice", use("g"), make("", STOP))))
        self.wrong(WrongArguments, "g", ("go", (("g", 1),), call("g", use("g"))))
        self.wrong(WrongArguments, "g", STEP, ("go", (("g", 1),), call("g", use("step"))))
        self.wrong(WrongArguments, "g", ("go", (("g", 1),), call("g", make("k", call("no")))))
        self.wrong(WrongArguments, "twice", TWICE, MAIN, ("go", (), call("twice", make("", call("no")), use("no"))))
        self.wrong(WrongArguments, "twice", TWICE, MAIN, ("go", (), call("twice", make("twice go", STOP), use("no"))))

    def test_a_definition_with_a_function_is_not_handed_on(self):
        hold = ("hold", (("f", 1),), STOP)
        self.wrong(WrongArguments, "hold", hold, ("main", (), call("hold", use("hold"))))
        two = ("two", (("f", 2),), STOP)
        self.wrong(WrongArguments, "two", two, TWICE, ("main", (), call("two", use("twice"))))
        # Even a name that cannot be handed on must be known first.
        self.wrong(UnknownName, "no", two, ("main", (), call("two", use("no"))))

    def test_the_first_fault_counts(self):
        # Each argument is checked completely before the next one.
        self.wrong(UnknownName, "no", TWICE, ("go", (), call("twice", make("k", call("no")), use("none"))))
        self.wrong(WrongArguments, "go", TWICE, ("go", (), call("twice", make("k", call("go", use("no"))), use("none"))))
        self.wrong(DuplicateName, "k", TWICE, ("go", (("k", 0),), call("twice", make("k", call("no")), use("none"))))
        # Bodies are checked in the order in which they are written, and definitions one after the other.
        self.wrong(UnknownName, "one", ("go", (), ("choose", (STOP, call("one"), call("two")))))
        self.wrong(UnknownName, "one", ("go", (), call("one")), ("ga", (("go", 0),), STOP))
        self.wrong(DuplicateName, "x", ("go", (("x", 0), ("x", 0)), call("one")), ("ga", (), call("two")))

    def test_properties_and_operators(self):
        program = Program([MAIN, TWICE])
        self.assertEqual(program.names, ["main", "twice"])
        self.assertEqual((program["twice"], program["main"]), (TWICE, MAIN))
        self.assertEqual(("main" in program, "no" in program, "f" in program), (True, False, False))
        self.assertEqual(raised(lambda: program["no"]), (UnknownName, {"name": "no"}))
        self.assertEqual([definition for definition in program], [MAIN, TWICE])

    def test_extended(self):
        program = Program([MAIN])
        longer = program.extended([TWICE, STEP])
        self.assertEqual((program.names, longer.names), (["main"], ["main", "twice", "step"]))
        self.assertEqual(program.extended([]).names, ["main"])
        self.assertEqual(raised(program.extended, [TWICE, MAIN]), (DuplicateName, {"name": "main"}))
        self.assertEqual(raised(program.extended, [("go", (("main", 0),), STOP)]), (DuplicateName, {"name": "main"}))
        self.assertEqual(program.names, ["main"])
        # A definition may call one that comes later only if it is there when the program is made.
        self.assertEqual(raised(Program, [("a", (), call("b"))]), (UnknownName, {"name": "b"}))
        self.assertEqual(program.extended([("a", (), call("b")), ("b", (), STOP)]).names, ["main", "a", "b"])

    def test_what_is_passed_and_returned_is_copied(self):
        definitions = [MAIN]
        program = Program(definitions)
        definitions.append(TWICE)
        program.names.append("x")
        self.assertEqual((program.names, list(program)), (["main"], [MAIN]))
        more = [STEP]
        longer = program.extended(more)
        more.clear()
        self.assertEqual(longer.names, ["main", "step"])
        self.assertEqual(Program((MAIN, STEP)).names, ["main", "step"])


if __name__ == "__main__":
    unittest.main()
