import unittest

from latelands.codes import Code
from latelands.errors import InvalidCode, InvalidText, NoName, NoRow
from latelands.machines import Machine
from tests import oracle
from tests.helpers import A, A_TEXT, D, D_TEXT, L, L_TEXT, M, N, code_of, odd_values

SEND = (("send", None, ("a",), None),)
OTHER = (("send", None, ("b",), None),)


def go(goal, *sources):
    return (("go", None, sources, goal),)


def not_rows():
    """Values that are no place from 0 to 3."""
    return [4, 5, -1, -4, 40] + [value for value in odd_values()] + ["0", (0,), slice(0, 1)]


class CodesTest(unittest.TestCase):

    def refused(self, reason, row, rows, machine=M, **named):
        """Refused when it is made in either way."""
        for make in (lambda: Code(machine, *rows, **named), lambda: Code.of(machine, rows, **named),
                     lambda: Code.of(machine, tuple(rows), **named)):
            with self.assertRaises(InvalidCode) as caught:
                make()
            self.assertEqual((caught.exception.reason, caught.exception.row), (reason, row))

    def test_the_examples(self):
        shown = [repr(A), A.registers, A.alike, A.reach, A.held, A.gaps, A.next_rows(3), A.entry("s"), str(A).split("\n")[0]]
        self.assertEqual(shown, ["Code(4 rows, 2 registers)", ("r", "s"), (("r", "s"),), 5, (), (0, 1, 2, 3), (4,),
                                 ("start", "r"), "alike r s"])
        shown = [D.held, D.gaps, D.next_rows(2), D.next_rows(3), D.rows_before(0), D.rows_before(4)]
        self.assertEqual(shown, [(3,), (0, 1, 2), (3,), (0, 4), (3,), (3,)])
        self.assertEqual([D.rows_before(row) for row in (1, 2, 3)], [(0,), (1,), (2,)])
        self.assertEqual(A.reach, 5)
        self.assertEqual(D.reach, 5)

    def test_made_both_ways(self):
        rows = [SEND, (("calc", "r", (), None), ("move", "b", ("s",), None)), ()]
        for code in (Code(M, *rows, alike=[("s", "a")]), Code.of(M, rows, alike=[("s", "a")]),
                     Code.of(alike=(["a", "s"],), rows=tuple(rows), machine=M)):
            self.assertIs(code.machine, M)
            self.assertEqual(code.rows, tuple(rows))
            self.assertEqual(code.registers, ("a", "b", "r", "s"))
            self.assertEqual(code.alike, (("a", "s"),))
            self.assertEqual((code.reach, code.held, code.gaps), (5, (), (0, 1, 2)))
            self.assertEqual(code, Code.read(M, "alike a s\nsend a\nr = calc ; b = move s\n-"))
        self.assertEqual((Code.MOST_ROWS, Code.MOST_REGISTERS, A.MOST_ROWS), (40, 8, 40))
        self.assertEqual(Code(M, SEND).alike, ())

    def test_each_method_stands_in_the_class(self):
        for method in ("__init__", "of", "read", "next_rows", "rows_before", "delay_of", "entry", "with_row", "__len__",
                       "__getitem__", "__eq__", "__repr__", "__str__"):
            self.assertIn(method, vars(Code))

    def test_numbers_of_rows(self):
        for many in (1, 2, 39, 40):
            code = Code.of(M, [SEND] * many)
            self.assertEqual(len(code), many)
            self.assertEqual(len(Code(M, *[SEND] * many)), many)
            self.assertEqual(repr(code), f"Code({many} rows, 1 registers)")
        self.assertEqual(repr(Code(M, ())), "Code(1 rows, 0 registers)")
        for many in (0, 41, 500):
            self.refused("rows", None, [SEND] * many)
        self.refused("rows", None, [5] * 41)
        for value in odd_values() + ["-", A, {0: SEND}]:
            if not isinstance(value, (list, tuple)):
                with self.assertRaises(InvalidCode) as caught:
                    Code.of(M, value)
                self.assertEqual((caught.exception.reason, caught.exception.row), ("rows", None))

    def test_what_is_no_row(self):
        for value in odd_values() + ["-", SEND[0], list(SEND), SEND * 3, go(41), go(1) + go(1)]:
            if value != ():
                self.refused("row", 0, [value])
                self.refused("row", 2, [(), SEND, value, SEND])
                self.refused("row", 1, [SEND, value, value])
        self.refused("row", 1, [SEND, (("none", "r", (), None),)])
        self.refused("row", 0, [[SEND]])

    def test_goals(self):
        for size in (3, 4, 40):
            for goal in (0, size - 1, size):
                code = Code.of(M, [go(goal)] + [()] * (size - 1))
                self.assertEqual(code.next_rows(1), (goal,))
        self.refused("goal", 0, [go(4), (), ()])
        self.refused("goal", 1, [(), go(4), ()])
        self.refused("goal", 2, [(), (), go(40), ()])
        self.refused("goal", 1, [go(0), go(5), ()])
        self.refused("goal", 0, [go(9), go(9)])
        self.refused("row", 1, [go(9), go(41)])

    def test_late_rows(self):
        for late in (0, 1, 2):
            machine = Machine(*M.kinds, late=late)
            for lacking in range(late):
                self.refused("late", 1, [(), go(0)] + [SEND] * lacking, machine)
            code = Code.of(machine, [(), go(0)] + [SEND] * late)
            self.assertEqual(code.held, tuple(range(2, 2 + late)))
            for place in range(2, 2 + late):
                jump_there = [SEND, go(0), (), (), (), ()]
                jump_there[place] = go(0)
                self.refused("late", 1, jump_there, machine)
                self.refused("late", 1, [SEND, go(place), (), (), ()], machine)
                self.refused("late", 1, [SEND, go(0), (), (), (), go(place, "c"), (), ()], machine)
                self.refused("late", 4, [go(place + 3, "c"), (), (), (), go(0), (), (), ()], machine)
            for goal in (0, 1, 2 + late, 4, 5):
                self.assertEqual(Code.of(machine, [SEND, go(goal), (), (), ()]).next_rows(1 + late), (goal,))
            self.assertEqual(len(Code.of(machine, ([go(1 + late)] + [()] * late) * 2)), 2 + 2 * late)

    def test_late_rows_of_jumps_to_which_no_way_leads(self):
        self.refused("late", 2, [go(5), (), go(5), SEND, go(3), ()])
        self.assertEqual(Code.of(M, [go(4), (), go(4), SEND]).held, (1, 3))

    def test_held_gaps(self):
        rows = [SEND, go(0, "c"), (), (), SEND, go(8), OTHER, (), SEND]
        for late, held in [(0, ()), (1, (2, 6)), (2, (2, 3, 6, 7))]:
            code = Code.of(Machine(*M.kinds, late=late), rows)
            self.assertEqual(code.held, held)
            self.assertEqual(code.gaps, tuple(gap for gap in range(9) if gap not in held))

    def test_registers(self):
        names = "abcdefgh"
        rows = [(("calc", name, (), None),) for name in reversed(names)]
        self.assertEqual(Code.of(M, rows).registers, tuple(names))
        self.refused("registers", None, rows + [(("send", None, ("i",), None),)])
        self.refused("registers", None, rows + [go(0, "i"), ()])
        self.assertEqual(Code(M, ()).registers, ())
        code = Code.of(M, [(("calc", "t", ("s", "r"), None),), (("move", "q", ("p",), None), ("go", None, ("o",), 0)), ()])
        self.assertEqual(code.registers, ("o", "p", "q", "r", "s", "t"))

    def test_groups(self):
        rows = [(("calc", name, (), None),) for name in "abcdefgh"]
        for groups, right in [((), ()), ([], ()), ([["b", "a"]], (("a", "b"),)),
                              ((("h", "g"), ["c", "e", "a"]), (("a", "c", "e"), ("g", "h"))),
                              ([tuple("hgfedcba")], (tuple("abcdefgh"),)),
                              ([("g", "h"), ("e", "f"), ("c", "d"), ("a", "b")],
                               (("a", "b"), ("c", "d"), ("e", "f"), ("g", "h")))]:
            self.assertEqual(Code.of(M, rows, alike=groups).alike, right)
            self.assertEqual(Code(M, *rows, alike=groups).alike, right)
        for groups in [[()], [("a",)], ["ab"], ["a", "b"], [("a", "b"), ()], [("a", "b"), ("b", "c")], [("a", "x")],
                       [("a", "a")], [("a", "b", "a")], [("a", "b"), ("c",)], [("a", 1)], [("a", None)], [("a", ["b"])],
                       [{"a": 1, "b": 2}], {("a", "b"): 1}, ("a", "b"), "ab", [("a", "b"), ("c", "d", "a")],
                       [("a", "b"), ("a", "b")], [("A", "b")], [("", "a")]]:
            self.refused("alike", None, rows, alike=groups)
        for value in odd_values():
            if value not in ((), []):
                self.refused("alike", None, rows, alike=value)
                self.refused("alike", None, rows, alike=[("a", "b"), value])

    def test_the_first_reason_is_told(self):
        self.refused("rows", None, [], alike=5)
        self.refused("row", 3, [go(9), (), (), 5], alike=5)
        self.refused("goal", 2, [go(1), (), go(9)], alike=5)
        self.refused("late", 0, [go(1), tuple(("send", None, (a,), None) for a in "ab")], alike=5)
        many = [(("send", None, (a, b), None),) for a, b in ("ab", "cd", "ef", "gh", "ij")]
        self.refused("registers", None, many, alike=5)
        self.refused("late", 5, many + [go(0)], alike=5)

    def test_reach(self):
        self.assertEqual(Code(M, SEND).reach, 1)
        self.assertEqual(Code(M, ()).reach, 1)
        for name, delay in [("one", 1), ("two", 2), ("three", 3), ("six", 6)]:
            self.assertEqual(code_of(f"send a / r = {name} / r = one").reach, delay)
        self.assertEqual(code_of("r = move a / go 2 / r = far a").reach, 6)

    def test_next_rows(self):
        code = code_of("send a / go 7 / - / - / go 0 c / - / - / send b", late=2)
        self.assertEqual([code.next_rows(row) for row in range(8)],
                         [(1,), (2,), (3,), (7,), (5,), (6,), (0, 7), (8,)])
        self.assertEqual([code.rows_before(row) for row in range(9)],
                         [(6,), (0,), (1,), (2,), (), (4,), (5,), (3, 6), (7,)])
        code = code_of("go 0 / go 3 c / go 3 c / go 4 / -")
        self.assertEqual([code.next_rows(row) for row in range(5)], [(0,), (2, 3), (3,), (4,), (5,)])
        self.assertEqual([code.rows_before(row) for row in range(6)], [(0,), (), (1,), (1, 2), (3,), (4,)])
        code = code_of("go 2 c / -", late=1)
        self.assertEqual([code.next_rows(0), code.next_rows(1), code.rows_before(2)], [(1,), (2,), (1,)])
        self.assertEqual(code.next_rows(row=0), (1,))
        self.assertEqual(code.rows_before(row=2), (1,))

    def test_next_rows_of_many_codes(self):
        for code in oracle.random_codes(1, 150):
            size = len(code)
            for row in range(size):
                self.assertEqual(code.next_rows(row), tuple(oracle.next_rows(code, row)))
            for row in range(size + 1):
                self.assertEqual(code.rows_before(row),
                                 tuple(at for at in range(size) if row in oracle.next_rows(code, at)))

    def test_no_row(self):
        for value in not_rows():
            for ask in (A.next_rows, A.rows_before, lambda row: A.delay_of(row, 0), lambda row: A.with_row(row, ()),
                        lambda row: A[row], lambda row: A.delay_of(row, None), lambda row: A.with_row(row, 5)):
                if value == 4 and ask == A.rows_before:
                    continue
                with self.assertRaises(NoRow) as caught:
                    ask(value)
                self.assertIs(caught.exception.row, value)
        self.assertEqual(A.rows_before(4), (3,))

    def test_delay_of(self):
        code = code_of("a = one ; b = six a ; go 0 / c = far a ; send a ; d = move a")
        self.assertEqual([[code.delay_of(row, index) for index in range(3)] for row in (0, 1)],
                         [[1, 6, None], [6, None, 2]])
        self.assertEqual(code.delay_of(index=1, row=0), 6)
        for value in [3, -1, 10] + odd_values() + ["0"]:
            with self.assertRaises(NoRow) as caught:
                code.delay_of(0, value)
            self.assertIs(caught.exception.row, value)
        with self.assertRaises(NoRow) as caught:
            A.delay_of(1, 0)
        self.assertEqual(caught.exception.row, 0)
        with self.assertRaises(NoRow) as caught:
            A.delay_of(7, 8)
        self.assertEqual(caught.exception.row, 7)

    def test_entry(self):
        code = Code.read(N, "alike s q\nalike p t\nsend p q ; send r s ; send t")
        self.assertEqual([code.entry(name) for name in "pqrst"],
                         [("start", "p"), ("start", "q"), ("start", "r"), ("start", "q"), ("start", "p")])
        self.assertEqual(A.entry(name="r"), ("start", "r"))
        for value in ["a", "rs", "R", ("r",)] + odd_values():
            with self.assertRaises(NoName) as caught:
                A.entry(value)
            self.assertIs(caught.exception.name, value)

    def test_with_row(self):
        code = A.with_row(1, (("calc", "x", (), None),))
        self.assertEqual(code, Code.read(M, "alike r s\nr = move s\nx = calc\nr = calc\nsend r"))
        self.assertEqual(A.with_row(operations=(), row=2), Code.read(M, "alike r s\nr = move s\n-\n-\nsend r"))
        self.assertEqual(A, Code.read(M, A_TEXT))
        self.assertEqual(A.with_row(0, A[0]), A)
        for row, operations, reason, told in [(0, (), "alike", None), (1, 5, "row", 1), (2, None, "row", 2),
                                              (0, [], "row", 0), (3, go(5), "goal", 3), (3, go(0), "late", 3),
                                              (1, go(2), "late", 1), (1, ((),), "row", 1)]:
            with self.assertRaises(InvalidCode) as caught:
                A.with_row(row, operations)
            self.assertEqual((caught.exception.reason, caught.exception.row), (reason, told))
        for value in odd_values():
            if value != ():
                self.assertRaises(InvalidCode, A.with_row, 0, value)

    def test_len_and_items(self):
        self.assertEqual((len(A), len(D), len(Code(M, ()))), (4, 4, 1))
        self.assertEqual([A[row] for row in range(4)], list(A.rows))
        self.assertEqual(A[3], (("send", None, ("r",), None),))

    def test_equal_codes(self):
        rows = [(("calc", name, (), None),) for name in "abcd"]
        code = Code.of(M, rows, alike=[("a", "b"), ("c", "d")])
        same = Code(Machine(*M.kinds, late=1, width=2), *rows, alike=(["d", "c"], ["b", "a"]))
        self.assertTrue(code == same)
        self.assertFalse(code != same)
        for other in (Code.of(M, rows), Code.of(M, rows, alike=[("a", "b")]), Code.of(M, rows, alike=[("a", "b", "c", "d")]),
                      Code.of(M, rows, alike=[("a", "c"), ("b", "d")]),
                      Code.of(M, rows + [()], alike=[("a", "b"), ("c", "d")]),
                      Code.of(M, rows[::-1], alike=[("a", "b"), ("c", "d")]),
                      Code.of(Machine(*M.kinds), rows, alike=[("a", "b"), ("c", "d")])):
            self.assertIs(code == other, False)
            self.assertIs(code != other, True)
        for value in odd_values() + [code.rows, str(code), M]:
            self.assertIs(code == value, False)

    def test_a_list_that_was_passed_may_change(self):
        rows, group = [SEND, OTHER], ["b", "a"]
        groups = [group]
        code = Code.of(M, rows, alike=groups)
        self.assertEqual((rows, group, groups), ([SEND, OTHER], ["b", "a"], [["b", "a"]]))
        rows.append(5)
        group.append("x")
        groups.append(5)
        self.assertEqual(code, Code(M, SEND, OTHER, alike=[("a", "b")]))
        self.assertEqual(str(code), "alike a b\nsend a\nsend b")

    def test_text(self):
        for code, text in ((A, A_TEXT), (D, D_TEXT), (L, L_TEXT)):
            self.assertEqual(str(code), text)
        code = Code.read(N, "alike z c\nalike y b\nsend z c ; send y b")
        self.assertEqual(str(code), "alike b y\nalike c z\nsend z c ; send y b")

    def test_read_back(self):
        for code in [A, D, L] + oracle.random_codes(2, 150):
            self.assertEqual(Code.read(code.machine, str(code)), code)
            self.assertEqual(str(Code.read(machine=code.machine, text=str(code))), str(code))


class ReadTest(unittest.TestCase):

    def wrong(self, text, line, word, machine=M):
        with self.assertRaises(InvalidText) as caught:
            Code.read(machine, text)
        self.assertEqual((caught.exception.line, caught.exception.word), (line, word), repr(text)[:100])

    def refused(self, text, reason, row):
        with self.assertRaises(InvalidCode) as caught:
            Code.read(M, text)
        self.assertEqual((caught.exception.reason, caught.exception.row), (reason, row))

    def test_values_that_are_no_strings(self):
        for value in odd_values():
            if not isinstance(value, str):
                self.wrong(value, 0, 0)
        self.wrong(["-"], 0, 0)
        self.wrong(b"-", 0, 0)

    def test_lines_of_rows(self):
        for line, word in [("", 0), (" ", 0), ("- -", 1), ("r =", 2), ("r = calc ; r = calc", 6), ("send", 1), ("go 41", 1),
                           ("R = calc", 0), ("go 0 ; go 0", 3), ("send a ; send a ; send a", 5), ("send " + "1" * 5000, 1)]:
            self.wrong(line, 0, word)
            self.wrong("send a\n" + line + "\nsend 1", 1, word)
            self.wrong("alike a b\nsend a\n-\n" + line, 3, word)

    def test_a_newline_at_the_end(self):
        self.wrong("-\n", 1, 0)
        self.wrong("\n-", 0, 0)
        self.wrong(A_TEXT + "\n", 5, 0)
        self.wrong(A_TEXT + " ", 4, 2)
        self.wrong("alike a b\n", 1, 0)
        self.wrong("-\r\n-", 0, 0)

    def test_texts_without_rows(self):
        self.wrong("", 0, 0)
        self.wrong("alike a b", 1, 0)
        self.wrong("alike a b\nalike c d", 2, 0)

    def test_lines_of_groups(self):
        for line, word in [("alike", 1), ("alike ", 1), ("alike r", 2), ("alike r r", 2), ("alike r s r", 3),
                           ("alike  r s", 1), ("alike r  s", 2), ("alike r s ", 3), ("alike R s", 1), ("alike r 1", 2),
                           ("alike r", 2), ("alike a", 1), ("alike r a", 2), ("alike b a", 1), ("alike r = s", 2),
                           ("alike r =", 2), ("alike r ;", 2), ("alike ; s", 1), ("alike abcdefghi r", 1),
                           ("alike " + "1" * 5000, 1), ("alike r -", 2), ("alike  = calc", 1)]:
            self.wrong("alike a b\n" + line + "\nsend r s", 1, word)
            self.wrong("alike a b\n" + line, 1, word)
            self.wrong("send r s\n" + line, 1, 1)
            self.wrong("alike a b\nsend r s\n" + line + "\n5", 2, 1)

    def test_groups_behind_rows(self):
        for line in ("alike", "alike r s", "alike r", "alike ", "alike 1", "alike r r"):
            self.wrong("send r s\n" + line, 1, 1)
            self.wrong("alike r s\nsend r s\n" + line, 2, 1)
        self.wrong("send r s\nalike r s\nsend 1", 1, 1)
        self.wrong("send 1 s\nalike r s", 0, 1)

    def test_groups_in_any_order(self):
        code = Code.read(N, "alike s r q\nalike b a\nsend s r ; send q b ; send a")
        self.assertEqual(code.alike, (("a", "b"), ("q", "r", "s")))

    def test_alike_as_a_register(self):
        code = Code.read(M, "alike = calc\nalike = move alike ; send alike")
        self.assertEqual(code.rows[0], (("calc", "alike", (), None),))
        self.assertEqual(str(code), "alike = calc\nalike = move alike ; send alike")
        code = Code.read(M, "alike alike r\nalike = calc r")
        self.assertEqual((code.alike, len(code)), ((("alike", "r"),), 1))
        self.wrong("alike =", 0, 2)
        self.wrong("-\nalike = ", 1, 2)
        self.wrong("alike = calc\nalike r s", 1, 1)

    def test_then_the_code_is_looked_at(self):
        self.refused("\n".join(["-"] * 41), "rows", None)
        self.refused("r = slow\nsend r\ngo 3 c\n-", "late", 2)
        self.refused("-\ngo 4\n-", "goal", 1)
        self.refused("alike r s\nsend r", "alike", None)
        self.refused("\n".join(f"send {a} {b}" for a, b in ("ab", "cd", "ef", "gh", "ij")), "registers", None)
        self.wrong("\n".join(["-"] * 41 + ["+"]), 41, 0)
        self.assertEqual(len(Code.read(M, "\n".join(["-"] * 40))), 40)


if __name__ == "__main__":
    unittest.main()
