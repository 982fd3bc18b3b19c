import itertools
import unittest

from latelands.errors import InvalidText
from latelands.kinds import Make, is_name
from latelands.machines import Machine
from latelands.rows import is_operation, is_row, read_row, row_text
from tests.helpers import M, N, odd_values

RIGHT = [
    ("calc", "r", (), None), ("calc", "r", ("a",), None), ("calc", "r", ("a", "b"), None),
    ("calc", "r", ("r", "r"), None), ("calc", "calc", ("alike",), None), ("move", "r", ("s",), None),
    ("move", "r", ("r",), None), ("send", None, ("a",), None), ("send", None, ("a", "a"), None),
    ("go", None, (), 0), ("go", None, ("a",), 40), ("go", None, ("go",), 7),
]
WRONG = [
    ("calc", "r", ("a", "b", "c"), None), ("calc", None, (), None), ("calc", "r", (), 0), ("calc", "", (), None),
    ("calc", "R", (), None), ("calc", "abcdefghi", (), None), ("calc", 1, (), None), ("calc", ("r",), (), None),
    ("calc", "r", [], None), ("calc", "r", ["a"], None), ("calc", "r", "a", None), ("calc", "r", None, None),
    ("calc", "r", ("a", 1), None), ("calc", "r", ("A",), None), ("calc", "r", (None,), None),
    ("move", "r", (), None), ("move", "r", ("a", "b"), None), ("move", None, ("a",), None), ("move", "r", ("a",), 1),
    ("move", "r", ("a",), False),
    ("send", None, (), None), ("send", None, ("a", "b", "c"), None), ("send", "r", ("a",), None),
    ("send", None, ("a",), 0), ("send", False, ("a",), None), ("send", (), ("a",), None),
    ("go", None, (), None), ("go", None, ("a", "b"), 0), ("go", "r", (), 0), ("go", None, (), 41), ("go", None, (), -1),
    ("go", None, (), True), ("go", None, (), False), ("go", None, (), "0"), ("go", None, (), (0,)),
    ("go", None, (), 10 ** 59), ("go", None, [], 0), ("go", "", (), 0),
    ("none", "r", (), None), ("", "r", (), None), ("Calc", "r", (), None), (None, "r", (), None), (0, "r", (), None),
    (("calc",), "r", (), None), (Make("calc", 2), "r", (), None),
    (), ("calc",), ("calc", "r", ()), ("calc", "r", (), None, None), ["calc", "r", (), None], "calc",
]


class OperationsTest(unittest.TestCase):

    def test_operations(self):
        for value in RIGHT:
            self.assertIs(is_operation(M, value), True, value)
        for value in WRONG + odd_values():
            self.assertIs(is_operation(M, value), False, value)

    def test_each_part_bent(self):
        for operation in RIGHT:
            for place in range(4):
                for value in odd_values() + ["r", "calc", 0, 40, 41, ("a", "b", "c")]:
                    if value == operation[place] and not isinstance(value, bool):
                        continue
                    bent = operation[:place] + (value,) + operation[place + 1:]
                    fits = place < 2 and is_name(value) and operation[1] is not None and (
                        place == 1 or (value == "calc" and operation[0] == "move"))
                    fits = fits or (place == 2 and operation[0] == "calc" and value in ((), ("r",)))
                    fits = fits or (place == 2 and operation[0] == "go" and value in ((), ("r",)))
                    fits = fits or (place == 2 and operation[0] in ("move", "send") and value == ("r",))
                    fits = fits or (place == 3 and operation[0] == "go" and value in (0, 40)
                                    and not isinstance(value, bool))
                    self.assertIs(is_operation(M, bent), bool(fits), bent)

    def test_goals(self):
        for goal in range(-2, 60):
            self.assertIs(is_operation(M, ("go", None, (), goal)), 0 <= goal <= 40)

    def test_by_name(self):
        self.assertIs(is_operation(machine=M, value=RIGHT[0]), True)
        self.assertIs(is_row(machine=M, value=(RIGHT[0],)), True)


class IsRowTest(unittest.TestCase):

    def test_rows(self):
        self.assertIs(is_row(M, ()), True)
        for one in RIGHT:
            self.assertIs(is_row(M, (one,)), True)
            self.assertIs(is_row(M, [one]), False)
        for one in WRONG:
            self.assertIs(is_row(M, (one,)), False)
            self.assertIs(is_row(M, (RIGHT[0], one)), False)
            self.assertIs(is_row(M, (one, RIGHT[0])), False)
        for value in odd_values() + [RIGHT[0], "-"]:
            self.assertIs(is_row(M, value), value == (), value)

    def test_width(self):
        for width in (1, 2, 3):
            machine = Machine(*M.kinds, width=width)
            for many in range(6):
                row = tuple(("send", None, ("a",), None) for _ in range(many))
                self.assertIs(is_row(machine, row), many <= width)

    def test_jumps(self):
        go, back = ("go", None, (), 3), ("go", None, ("a",), 0)
        for row in [(go, back), (go, go), (back, ("send", None, ("a",), None), back)]:
            self.assertIs(is_row(N, row), False)
        self.assertIs(is_row(N, (("send", None, ("a",), None), go)), True)

    def test_one_target_with_one_delay(self):
        machine = Machine(Make("calc", 2), Make("other", 2), Make("slow", 5), width=3)
        calc, other, slow = ("calc", "r", (), None), ("other", "r", ("a",), None), ("slow", "r", (), None)
        for row in itertools.product([calc, other, slow], repeat=2):
            self.assertIs(is_row(machine, row), (slow in row) and row != (slow, slow), row)
        self.assertIs(is_row(machine, (calc, slow, other)), False)
        self.assertIs(is_row(machine, (calc, ("calc", "s", (), None), slow)), True)
        self.assertIs(is_row(N, (("keep", "r", ("a",), None), ("keep", "r", ("b",), None))), False)


class RowTextTest(unittest.TestCase):

    def test_texts(self):
        for row, text in [((), "-"), ((RIGHT[0],), "r = calc"), ((RIGHT[2],), "r = calc a b"),
                          ((("go", None, (), 40),), "go 40"), ((("go", None, ("c",), 0),), "go 0 c"),
                          ((("send", None, ("a", "b"), None),), "send a b"),
                          ((("calc", "r", ("a", "b"), None), ("send", None, ("a",), None), ("go", None, ("c",), 3)),
                           "r = calc a b ; send a ; go 3 c")]:
            self.assertEqual(row_text(row), text)
            self.assertEqual(row_text(row=row), text)
            self.assertEqual(read_row(Machine(*M.kinds), text), row)

    def test_the_examples(self):
        self.assertEqual([read_row(M, "r = calc a b ; go 3 c"), read_row(M, "-"), row_text((("send", None, ("a",), None),))],
                         [(("calc", "r", ("a", "b"), None), ("go", None, ("c",), 3)), (), "send a"])


class ReadRowTest(unittest.TestCase):

    def wrong(self, text, word, machine=M):
        with self.assertRaises(InvalidText) as caught:
            read_row(machine, text)
        self.assertEqual((caught.exception.line, caught.exception.word), (0, word), repr(text)[:100])

    def test_read_back(self):
        wide = Machine(*M.kinds, width=3)
        for many in (1, 2, 3):
            for row in itertools.product(RIGHT, repeat=many):
                if is_row(wide, row):
                    self.assertEqual(read_row(machine=wide, text=row_text(row)), row)
                else:
                    with self.assertRaises(InvalidText):
                        read_row(wide, row_text(row))

    def test_the_examples(self):
        self.wrong("r = calc ; r = calc a", 6)
        self.wrong("r = move", 3)

    def test_values_that_are_no_strings(self):
        for value in odd_values():
            if not isinstance(value, str):
                self.wrong(value, 0)
        self.wrong(b"-", 0)

    def test_no_operations(self):
        self.assertEqual(read_row(M, "-"), ())
        for text in ("- -", "- = calc", "- ", "-  ", "- ; send a", "- \n", "- = "):
            self.wrong(text, 1)
        for text in ("--", "-\n", " -", "-;", "", " ", "\n", "\n-"):
            self.wrong(text, 0)
        self.wrong("send a ; -", 3)

    def test_operations_with_a_target(self):
        for text, word in [("R = calc", 0), (" = calc", 0), ("= = calc", 0), ("; = calc", 0), ("abcdefghi = calc", 0),
                           ("1 = none", 0), ("r\n = calc", 0),
                           ("r =", 2), ("r = ", 2), ("r = none", 2), ("r = send a", 2), ("r = go 3", 2), ("r = =", 2),
                           ("r = ; send a", 2), ("r =  calc", 2), ("r = Calc", 2), ("r = r", 2), ("r = calc\n", 2),
                           ("r = calc a b c", 5), ("r = calc A", 3), ("r = calc a B", 4), ("r = calc ", 3),
                           ("r = calc  a", 3), ("r = calc a ", 4), ("r = calc =", 3), ("r = calc a =", 4),
                           ("r = calc a\n", 3), ("r = calc 1", 3), ("r = calc -", 3), ("r = calc a b ", 5),
                           ("r = move", 3), ("r = move ; send a", 3), ("r = move a b", 4), ("r = move 1 b", 3),
                           ("r == calc", 0), ("r =calc", 0), ("r=calc", 0), ("r = calc;", 2), ("r = calc a; send a", 3)]:
            self.wrong(text, word)

    def test_one_target_with_one_delay(self):
        self.wrong("r = calc ; r = calc", 6)
        self.wrong("r = calc a b ; r = calc 1 2 3", 8)
        self.wrong("r = slow ; r = move", 6)
        self.wrong("r = move s ; r = slow a ; send a", 7)
        self.assertEqual(len(read_row(M, "r = calc ; s = calc")), 2)
        self.assertEqual(len(read_row(M, "r = calc ; r = slow")), 2)
        machine = Machine(*M.kinds, width=3)
        self.wrong("r = calc ; r = slow ; r = calc", 10, machine)
        self.wrong("r = calc ; send a ; r = calc", 9, machine)

    def test_gives(self):
        for text, word in [("send", 1), ("send ", 1), ("send ; send a", 1), ("send a b c", 3), ("send A", 1),
                           ("send a B", 2), ("Send a", 0), ("sen a", 0), ("send  a", 1), ("send a ", 2), ("send a b ", 3),
                           ("send a =", 2), ("calc a", 0), ("move a", 0), ("send 1", 1), ("r", 0), ("r calc", 0),
                           ("none a", 0), ("send = a", 2)]:
            self.wrong(text, word)

    def test_jumps(self):
        for goal in range(41):
            self.assertEqual(read_row(M, f"go {goal}"), (("go", None, (), goal),))
            self.assertEqual(read_row(M, f"go {goal} c"), (("go", None, ("c",), goal),))
        for word in ("41", "400", "-1", "01", "00", "+1", "x", "", "1.", "=x", ";", "4\n", "1" * 5000, "0" * 5000, "1_0"):
            self.wrong(f"go {word}", 1)
            self.wrong(f"go {word} c", 1)
        for text, word in [("go", 1), ("go ", 1), ("go ; go 3", 1), ("go c", 1), ("go 3 c d", 3), ("go 3 C", 2),
                           ("go 3 4", 2), ("go 3 ", 2), ("go 3 c ", 3), ("go  3", 1), ("go = 3", 2)]:
            self.wrong(text, word)
        self.wrong("go 3 ; go 3", 3)
        self.wrong("go 3 c ; go x", 4)
        self.wrong("go 3 ; send a ; go 4", 6, Machine(*M.kinds))

    def test_a_jump_may_write_nothing(self):
        self.wrong("go = calc ; go", 5)
        self.assertEqual(read_row(M, "go = calc ; go 3"), (("calc", "go", (), None), ("go", None, (), 3)))

    def test_operations_without_a_word(self):
        for text, word in [("; send a", 0), (";", 0), ("; ;", 0), ("send a ;", 3), ("send a ; ; send a", 3),
                           ("send a ; ", 3), ("send a ;  ; send b", 3), ("r = calc ; ;", 4), (" ; send a", 0),
                           ("go 3 ;", 3), ("send a ;;", 2), ("send a ;send b", 2)]:
            self.wrong(text, word)

    def test_one_operation_more_than_the_width(self):
        for width in (1, 2, 3):
            machine = Machine(*M.kinds, width=width)
            text = " ; ".join(["send a"] * width)
            self.assertEqual(len(read_row(machine, text)), width)
            for more in (" ; send a", " ;", " ; ;", " ; none", " ; r = calc"):
                self.wrong(text + more, 3 * width - 1, machine)
            self.wrong(text + " b c ; send a", 3 * width, machine)

    def test_the_words_are_looked_at_from_the_left(self):
        self.wrong("R = none", 0)
        self.wrong("r = none A", 2)
        self.wrong("go 41 C", 1)
        self.wrong("send a ; none ; 1", 3)
        self.wrong("send A ; none", 1)

    def test_registers_may_be_called_like_kinds(self):
        self.assertEqual(read_row(M, "calc = calc calc send"), (("calc", "calc", ("calc", "send"), None),))
        self.assertEqual(read_row(M, "send send ; alike = move alike"),
                         (("send", None, ("send",), None), ("move", "alike", ("alike",), None)))


if __name__ == "__main__":
    unittest.main()
