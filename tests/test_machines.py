import unittest

from latelands.errors import InvalidMachine, InvalidText, NoName
from latelands.kinds import Copy, Give, Jump, Kind, Make
from latelands.machines import Machine
from tests.helpers import M, M_TEXT, odd_values

LETTERS = "abcdefghijklm"


def gives(many):
    return [Give(letter) for letter in LETTERS[:many]]


class MachinesTest(unittest.TestCase):

    def refused(self, reason, *kinds, **named):
        """Refused when it is made in either way."""
        for make in (lambda: Machine(*kinds, **named), lambda: Machine.of(kinds, **named),
                     lambda: Machine.of(list(kinds), **named)):
            with self.assertRaises(InvalidMachine) as caught:
                make()
            self.assertEqual(caught.exception.reason, reason)

    def test_the_examples(self):
        shown = [repr(M), M.late, M.width, "calc" in M, M.kind("move").delay, str(M).split("\n")[2]]
        self.assertEqual(shown, ["Machine(5 kinds)", 1, 2, True, 5, "make calc 2"])

    def test_attributes(self):
        kinds = (Make("calc", 2), Jump("go"), Give("send"))
        for machine in (Machine(*kinds, late=2, width=1), Machine.of(kinds, late=2, width=1),
                        Machine.of(list(kinds), width=1, late=2), Machine.of(kinds=kinds, late=2, width=1)):
            self.assertEqual((machine.kinds, machine.late, machine.width), (kinds, 2, 1))
            self.assertIs(type(machine.kinds), tuple)
        self.assertEqual((Machine(*kinds).late, Machine(*kinds).width), (0, 3))
        self.assertEqual((Machine.of(kinds).late, Machine.of(kinds).width), (0, 3))
        self.assertEqual((Machine.MOST_KINDS, Machine.MOST_DELAY), (12, 6))
        self.assertEqual((M.MOST_KINDS, M.MOST_DELAY), (12, 6))

    def test_each_method_stands_in_the_class(self):
        for method in ("__init__", "of", "read", "kind", "__contains__", "__len__", "__eq__", "__repr__", "__str__"):
            self.assertIn(method, vars(Machine))

    def test_numbers_of_kinds(self):
        for many in (1, 2, 11, 12):
            self.assertEqual(len(Machine(*gives(many))), many)
            self.assertEqual(len(Machine.of(gives(many))), many)
        self.refused("kinds")
        self.refused("kinds", *gives(13))

    def test_what_is_no_kind(self):
        for value in odd_values() + ["calc", Make, Kind("calc")]:
            if not isinstance(value, Kind) or type(value) is Kind:
                self.refused("kinds", value)
                self.refused("kinds", Give("a"), value)
        for value in odd_values():
            if not isinstance(value, (list, tuple)):
                with self.assertRaises(InvalidMachine) as caught:
                    Machine.of(value)
                self.assertEqual(caught.exception.reason, "kinds")
        with self.assertRaises(InvalidMachine):
            Machine([Give("a")])
        with self.assertRaises(InvalidMachine):
            Machine.of({Give("a").name: Give("a")})

    def test_names_that_come_twice(self):
        self.refused("name", Give("a"), Give("a"))
        self.refused("name", Make("a", 1), Give("b"), Copy("a", 2))
        self.refused("name", *gives(11), Jump("a"))

    def test_late_and_width(self):
        for late in (0, 1, 2):
            for width in (1, 2, 3):
                machine = Machine(Give("a"), late=late, width=width)
                self.assertEqual((machine.late, machine.width), (late, width))
        for value in [-1, 3, 4] + odd_values() + ["1", (1,)]:
            self.refused("late", Give("a"), late=value)
        for value in [0, -1, 4] + odd_values() + ["1", (1,)]:
            self.refused("width", Give("a"), width=value)

    def test_the_first_reason_is_told(self):
        self.refused("kinds", Give("a"), Give("a"), 5, late=7, width=7)
        self.refused("kinds", *gives(12), Give("a"))
        self.refused("name", Give("a"), Give("a"), late=7, width=7)
        self.refused("late", Give("a"), late=True, width=None)
        self.refused("late", Give("a"), late=3, width=0)

    def test_a_list_that_was_passed_may_change(self):
        kinds = gives(2)
        machine = Machine.of(kinds)
        self.assertEqual(kinds, gives(2))
        kinds.append(Give("z"))
        kinds[0] = Give("y")
        self.assertEqual(machine, Machine(*gives(2)))

    def test_kind(self):
        for kind in M.kinds:
            self.assertIs(M.kind(kind.name), kind)
            self.assertIs(M.kind(name=kind.name), kind)
            self.assertIs(kind.name in M, True)
        for value in ["x", "alike", "cal", "calcs", "Calc", Make("calc", 2), ("calc",)] + odd_values():
            with self.assertRaises(NoName) as caught:
                M.kind(value)
            self.assertIs(caught.exception.name, value)
            self.assertIs(value in M, False)

    def test_equal_machines(self):
        kinds = (Make("a", 1), Give("b"))
        self.assertTrue(Machine(*kinds) == Machine(Make("a", 1), Give("b"), late=0, width=3))
        self.assertFalse(Machine(*kinds) != Machine.of(list(kinds)))
        for other in (Machine(*reversed(kinds)), Machine(Make("a", 2), Give("b")), Machine(*kinds, late=1),
                      Machine(*kinds, width=2), Machine(kinds[0]), Machine(*kinds, Jump("c")),
                      Machine(Copy("a", 1), Give("b"))):
            self.assertIs(Machine(*kinds) == other, False)
            self.assertIs(Machine(*kinds) != other, True)
        for value in odd_values() + [str(M), M.kinds]:
            self.assertIs(M == value, False)

    def test_len_and_repr(self):
        for many in (1, 5, 12):
            self.assertEqual(len(Machine(*gives(many))), many)
            self.assertEqual(repr(Machine(*gives(many))), f"Machine({many} kinds)")

    def test_text(self):
        self.assertEqual(str(M), M_TEXT)
        machine = Machine(Jump("a"), Give("b"), Copy("c", 6), Make("d", 1), late=2, width=1)
        self.assertEqual(str(machine), "late 2\nwidth 1\njump a\ngive b\ncopy c 6\nmake d 1")


class ReadTest(unittest.TestCase):

    def wrong(self, text, line, word):
        with self.assertRaises(InvalidText) as caught:
            Machine.read(text)
        self.assertEqual((caught.exception.line, caught.exception.word), (line, word), repr(text)[:100])

    def test_read_back(self):
        for machine in (M, Machine(Give("a"), late=2, width=1), Machine.of(gives(12)),
                        Machine(Make("make", 6), Copy("copy", 1), Give("late"), Jump("abcdefgh"), width=2)):
            self.assertEqual(Machine.read(str(machine)), machine)
            self.assertEqual(str(Machine.read(text=str(machine))), str(machine))

    def test_the_examples(self):
        self.wrong("late 1\nwidth 4\ngive send", 1, 1)
        self.wrong("late 0\nwidth 1\nmake a 2 3", 2, 3)

    def test_values_that_are_no_strings(self):
        for value in odd_values():
            if not isinstance(value, str):
                self.wrong(value, 0, 0)
        self.wrong(M_TEXT.encode(), 0, 0)
        self.wrong([M_TEXT], 0, 0)

    def test_the_first_two_lines(self):
        for at, (head, right, others) in enumerate([("late", "1", ["3", "-1", "01", "+1", "1 ", "1.", "one", "2" * 5000]),
                                                    ("width", "2", ["0", "4", "02", " 2", "2" * 5000])]):
            lines = M_TEXT.split("\n")

            def text(line):
                return "\n".join(lines[:at] + [line] + lines[at + 1:])
            for word in (head.upper(), head[:-1], head + "s", "", "kind", "make", "x" * 5000):
                self.wrong(text(f"{word} {right}"), at, 0)
                self.wrong(text(word), at, 0)
            self.wrong(text(f" {head} {right}"), at, 0)
            self.wrong(text(head), at, 1)
            self.wrong(text(head + " "), at, 1)
            self.wrong(text(f"{head}  {right}"), at, 1)
            for other in others:
                if " " not in other:
                    self.wrong(text(f"{head} {other}"), at, 1)
            self.wrong(text(f"{head} {right} "), at, 2)
            self.wrong(text(f"{head} {right} {right}"), at, 2)
            self.wrong(text(f"{head} 9 9"), at, 1)

    def test_numbers_in_bounds(self):
        for late in range(3):
            for width in range(1, 4):
                machine = Machine.read(f"late {late}\nwidth {width}\ngive a")
                self.assertEqual((machine.late, machine.width, machine.kinds), (late, width, (Give("a"),)))
        for delay in range(1, 7):
            machine = Machine.read(f"late 0\nwidth 1\nmake a {delay}\ncopy b {delay}")
            self.assertEqual(machine.kinds, (Make("a", delay), Copy("b", delay)))

    def test_lines_of_kinds(self):
        head = "late 0\nwidth 1\ngive z\n"
        for line, word in [("", 0), (" ", 0), ("Make a 1", 0), ("kind a", 0), ("a", 0), (" make a 1", 0), ("late 1", 0),
                           ("make", 1), ("make ", 1), ("make  a 1", 1), ("make A 1", 1), ("make alike 1", 1),
                           ("make abcdefghi 1", 1), ("make z 1", 1), ("make 1 a", 1), ("make z", 1), ("give z", 1),
                           ("give alike", 1), ("jump", 1), ("jump 1", 1), ("copy alike", 1), ("give " + "a" * 5000, 1),
                           ("make a", 2), ("make a ", 2), ("make a 0", 2), ("make a 7", 2), ("make a 01", 2),
                           ("make a  1", 2), ("make a x", 2), ("make a " + "1" * 5000, 2), ("copy a", 2),
                           ("copy a 0 0", 2), ("give a 1", 2), ("give a ", 2), ("jump a a", 2), ("make a -1", 2),
                           ("make a 1 ", 3), ("make a 1 2", 3), ("copy a 6 6", 3), ("make a 1 ;", 3)]:
            self.wrong(head + line, 3, word)
            self.wrong(head + line + "\nmake b 9", 3, word)
            self.wrong(head + "make b 9\n" + line, 3, 2)
        self.wrong("late 0\nwidth 1\nwidth 1", 2, 0)

    def test_lines_that_lack(self):
        self.wrong("late 0", 1, 0)
        self.wrong("late 0\n", 1, 0)
        self.wrong("late 0\nwidth 1", 2, 0)
        self.wrong("late 0\nwidth 1\n", 2, 0)
        self.wrong("", 0, 0)
        self.wrong("\n", 0, 0)
        self.wrong("width 1\ngive a", 0, 0)
        self.wrong("late 0\ngive a", 1, 0)

    def test_a_newline_at_the_end(self):
        self.wrong(M_TEXT + "\n", 7, 0)
        self.wrong(M_TEXT + "\n\n", 7, 0)
        self.wrong(M_TEXT + " ", 6, 2)
        self.wrong("\n" + M_TEXT, 0, 0)

    def test_a_thirteenth_kind(self):
        text = str(Machine.of(gives(12)))
        for line in ("give m", "give a", "", "make alike 9", "give"):
            self.wrong(text + "\n" + line, 14, 0)

    def test_words_left_out_and_doubled(self):
        lines = [line.split(" ") for line in M_TEXT.split("\n")]
        for at, words in enumerate(lines):
            for place in range(len(words)):
                def text(changed):
                    return "\n".join(" ".join(each) for each in lines[:at] + [changed] + lines[at + 1:])
                self.wrong(text(words[:place] + words[place + 1:]), at, place)
                doubled = words[:place + 1] + words[place:]
                # A sort is no name behind itself, and a name is no number; only a sort is a name, too.
                word = 2 if place == 0 and at >= 2 else place + 1
                self.wrong(text(doubled), at, word)
                self.wrong(text(words[:place] + ["?"] + words[place:]), at, place)


if __name__ == "__main__":
    unittest.main()
