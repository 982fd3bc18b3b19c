import unittest

from latelands.codes import Code
from latelands.errors import Clash, InvalidMap, NoName, TooMany
from latelands.landings import clash
from latelands.machines import Machine
from latelands.sidecheck import shows_apart, shows_same
from latelands.sides import same
from latelands.ways import points
from tests import oracle, oracle_sides
from tests.helpers import A, D, GOALS_800, GOALS_801, L, M, ROUND, clashing, hasty, jumping, odd_values, put_ahead, wide

PLAIN = Machine.read("late 0\nwidth 1\nmake calc 1\ngive send\njump go")


def plain(text):
    """A code for that machine, its lines parted by ` / `."""
    return Code.read(PLAIN, text.replace(" / ", "\n"))


def read(text):
    return Code.read(M, text.replace(" / ", "\n"))


def sides(seed, many):
    """Codes side by side without clashes."""
    found = oracle_sides.random_sides(seed, many)
    return [each for each in found if clash(each[0]) is None and clash(each[1]) is None]


class SidesTest(unittest.TestCase):

    def test_the_examples(self):
        code, slower = read("r = calc / send r"), read("r = calc / - / send r")
        renamed = read("r = calc / send s")
        self.assertEqual(same(code, slower, rows=(0, None, 1)), ("differs", (0, 1, 2), (2, 0, 0)))
        self.assertEqual(same(code, renamed), ("differs", (0, 1), (1, 0, 0)))
        self.assertEqual(same(code, renamed, starts={"r": "r", "s": "r"})[0], "same")
        self.assertEqual(same(code, code)[0], "same")
        loop = plain("r = calc / go 0 r")
        self.assertEqual(same(loop, plain("r = calc / go 1 r")), ("strays", (0, 1), 1))
        self.assertEqual(same(loop, plain("r = calc / go 2 r")), ("lacks", (0, 1), 0))
        self.assertEqual(same(loop, plain("go 0 / r = calc / go 0 r"), rows=(None, 0, 1)), ("strays", (), None))

    def test_arguments_by_name(self):
        self.assertEqual(same(code=A, other=A, rows=(0, 1, 2, 3), starts={"r": "r", "s": "s"}), same(A, A))
        self.assertEqual(same(A, A, rows=None, starts=None), same(A, A))

    def hold(self, code, other, stands, starts, rows=7):
        """What same tells, held against the ways of so many rows and against [17]. Returns its word."""
        told = same(code, other, rows=stands, starts=starts)
        found = oracle_sides.verdicts(code, other, stands, starts, rows)
        words = ["strays", "lacks", "differs", "same"]
        for word in words[:words.index(told[0])]:
            self.assertIsNone(found[word])
        if told[0] == "same":
            self.assertEqual(list(told[1]), sorted(set(told[1])))
            self.assertTrue(oracle_sides.table_holds(code, other, stands, starts, told[1]))
            self.assertIs(shows_same(code, other, told[1], rows=stands, starts=starts), True)
        else:
            self.hold_apart(code, other, stands, starts, told)
            self.assertEqual(found[told[0]], len(told[1]) if len(told[1]) <= rows else None)
            self.assertIs(shows_apart(code, other, told, rows=stands, starts=starts), True)
        return told[0]

    def hold_apart(self, code, other, stands, starts, told):
        """That the way is one of those in [17], and that what is told of it is the least."""
        word, way, least = told
        self.assertTrue(oracle_sides.is_way(other, way) and oracle_sides.looked_at(code, other, stands, way))
        if word == "strays":
            self.assertEqual(least, oracle_sides.strays(code, other, stands, way)[0])
        elif word == "lacks":
            self.assertEqual(least, oracle_sides.lacks(code, other, stands, way)[0])
        else:
            self.assertEqual(least, oracle_sides.change(code, other, stands, starts, way))

    def test_many_codes(self):
        words = [self.hold(*each) for each in sides(211, 600)]
        for word in ("strays", "lacks", "differs"):
            self.assertGreater(words.count(word), 5, words.count(word))
        self.assertGreater(words.count("same"), 100)

    def test_a_code_beside_itself(self):
        for code in [A, D, L, ROUND] + [code for code in oracle.random_codes(212, 40) if clash(code) is None]:
            again = Code.of(code.machine, code.rows, alike=code.alike)
            self.assertEqual(self.hold(code, again, tuple(range(len(code))), {name: name for name in code.registers}, 5),
                             "same")
            self.assertEqual(same(code, again)[0], "same")

    def test_registers_with_other_names(self):
        other = read("x = move z / - / x = calc / send x")
        self.assertEqual(self.hold(A, other, (0, 1, 2, 3), {"x": "r", "z": "s"}), "same")
        # The registers begin alike in the code, so they may begin exchanged.
        self.assertEqual(self.hold(A, other, (0, 1, 2, 3), {"x": "s", "z": "r"}), "same")
        self.assertEqual(same(A, other), ("differs", (0,), (0, 0, 0)))
        self.assertEqual(same(A, other, starts={"z": "r"}), ("differs", (0, 1, 2, 3), (3, 0, 0)))
        other = read("s = move r / - / s = calc / send s")
        self.assertEqual(self.hold(A, other, (0, 1, 2, 3), {"r": "s", "s": "r"}), "same")
        self.assertEqual(self.hold(A, other, (0, 1, 2, 3), {"r": "r", "s": "r"}), "same")

    def test_groups_on_one_side(self):
        apart, alike = read("send r / send s"), read("alike r s / send r / send s")
        both = {"r": "r", "s": "s"}
        turned = {"r": "s", "s": "r"}
        # Groups of the code count, groups of the other do not.
        self.assertEqual(self.hold(apart, alike, (0, 1), both), "same")
        self.assertEqual(self.hold(alike, apart, (0, 1), both), "same")
        self.assertEqual(same(apart, alike, starts=turned), ("differs", (0,), (0, 0, 0)))
        self.assertEqual(self.hold(alike, apart, (0, 1), turned), "same")
        self.assertEqual(same(apart, alike, starts={"r": "r"}), ("differs", (0, 1), (1, 0, 0)))
        self.assertEqual(same(apart, alike, starts={}), ("differs", (0,), (0, 0, 0)))
        self.assertEqual(same(apart, apart, starts={"r": "r", "s": "r"}), ("differs", (0, 1), (1, 0, 0)))

    def test_spare_rows(self):
        code = plain("r = calc / send r / go 0 r")
        for text, stands in [("- / - / r = calc / send r / go 2 r", (None, None, 0, 1, 2)),
                             ("go 2 / - / r = calc / send r / go 0 r / -", (None, None, 0, 1, 2, None)),
                             ("r = calc / go 3 / - / send r / go 0 r / go 7 / -", (0, None, None, 1, 2, None, None)),
                             ("go 4 / send r / go 4 r / go 6 / r = calc / go 1", (None, 1, 2, None, 0, None))]:
            self.assertEqual(self.hold(code, plain(text), stands, {"r": "r"}), "same", text)
        # Over spare rows what is on its way lands.
        code = read("r = calc / send r")
        self.assertEqual(same(code, read("r = slow / - / send r"), rows=(0, None, 1))[0], "same")
        self.assertEqual(same(code, read("r = slow / - / - / - / - / send r"), rows=(0, None, None, None, None, 1)),
                         ("differs", (0, 1, 2, 3, 4, 5), (5, 0, 0)))

    def test_spare_jumps_with_late_rows(self):
        code = read("r = calc / - / send r")
        other = read("r = calc / - / go 5 / - / - / send r")
        self.assertEqual(self.hold(code, other, (0, 1, None, None, None, 2), {"r": "r"}), "same")
        other = read("r = calc / - / go 0 / - / - / send r")
        # What the spare jump leads to is told by the row for which it stands.
        self.assertEqual(same(code, other, rows=(0, 1, None, None, None, 2)), ("strays", (0, 1), 0))

    def test_other_delays(self):
        code = read("r = calc / - / - / - / - / send r")
        self.assertEqual(self.hold(code, read("r = slow / - / - / - / - / send r"), tuple(range(6)), {"r": "r"}), "same")
        code = read("r = calc / - / send r")
        self.assertEqual(self.hold(code, read("r = slow / - / send r"), tuple(range(3)), {"r": "r"}), "differs")
        other = Machine.read("late 0\nwidth 3\nmake quick 1\ngive tell")
        self.assertEqual(self.hold(code, Code.read(other, "a = quick\n-\ntell a"), (0, 1, 2), {"a": "r"}), "same")

    def test_strays_to_a_row_to_the_end_and_to_none(self):
        code = plain("r = calc / send r / go 0 r")
        self.assertEqual(same(code, plain("r = calc / send r / go 1 r")), ("strays", (0, 1, 2), 1))
        self.assertEqual(same(code, plain("r = calc / go 2 / send r / go 0 r"), rows=(0, None, 1, 2))[0], "same")
        # The end of the other is told by the number of rows of the code.
        self.assertEqual(same(code, plain("r = calc / go 4 / send r / go 0 r"), rows=(0, None, 1, 2)), ("strays", (0,), 3))
        self.assertEqual(same(code, plain("r = calc / go 1 / send r / go 0 r"), rows=(0, None, 1, 2)), ("strays", (0,), None))
        # A row that is no next row comes ahead of going round for ever.
        self.assertEqual(same(code, plain("r = calc / send r / go 4 r / go 3 / go 3"), rows=(0, 1, 2, None, None)),
                         ("strays", (0, 1, 2), None))
        self.assertEqual(same(code, plain("r = calc / send r / go 1 r / go 3"), rows=(0, 1, 2, None)), ("strays", (0, 1, 2), 1))
        # Of two rows that are none the least one is told.
        loop = read("r = calc / send r / go 0 r / - / send r / send r")
        self.assertEqual(same(loop, read("r = calc / send r / go 1 r / - / send r / send r"), rows=(0, 1, 2, 3, 5, 4)),
                         ("strays", (0, 1, 2, 3), 1))

    def test_what_the_other_begins_with(self):
        code = plain("- / r = calc / send r")
        self.assertEqual(same(code, plain("r = calc / - / send r"), rows=(1, 0, 2)), ("strays", (), 1))
        self.assertEqual(same(code, plain("go 2 / - / -"), rows=(None, None, None)), ("strays", (), 3))
        self.assertEqual(same(code, plain("-"), rows=(None,)), ("strays", (), 3))
        self.assertEqual(same(code, plain("- / - / r = calc / send r"), rows=(None, 0, 1, 2))[0], "same")

    def test_lacks(self):
        code = plain("r = calc / go 0 r / send r")
        self.assertEqual(same(code, plain("r = calc / go 2 r / send r")), ("lacks", (0, 1), 0))
        self.assertEqual(same(plain("go 0 r / go 0 r"), plain("go 1 r / go 2 r")), ("lacks", (0,), 0))
        self.assertEqual(same(plain("go 0 r / -"), plain("go 0 r / -"), rows=(0, 1))[0], "same")
        # The end of the code is told by its number of rows.
        self.assertEqual(same(plain("go 2 r / -"), plain("go 1 r / -")), ("lacks", (0,), 2))
        # What strays comes ahead of what lacks, also on longer ways.
        self.assertEqual(same(plain("go 2 r / - / - / -"), plain("go 1 r / go 3 / - / -"), rows=(0, None, 1, 2))[0], "strays")

    def test_the_least_change_of_the_last_row(self):
        machine = Machine.read("late 0\nwidth 3\nmake calc 1\ngive send")
        code = Code.read(machine, "send a b ; send c a")
        for starts, change in [({"a": "a", "b": "b"}, (0, 1, 0)), ({"a": "a"}, (0, 0, 1)), ({"b": "b", "c": "c"}, (0, 0, 0)),
                               ({"a": "a", "b": "c", "c": "b"}, (0, 0, 1)), ({"a": "c", "b": "b", "c": "c"}, (0, 0, 0))]:
            self.assertEqual(same(code, code, starts=starts), ("differs", (0,), change))
        other = Code.read(machine, "send a b ; send c b")
        self.assertEqual(same(code, other), ("differs", (0,), (0, 1, 1)))

    def test_results_of_steps_that_do_not_correspond(self):
        # Both send the result of a make of one row and index, but of another turn.
        code = plain("r = calc / send r / go 0 c")
        other = Machine.read("late 0\nwidth 1\nmake calc 4\ngive send\njump go")
        self.assertEqual(same(code, Code.read(other, "r = calc\nsend r\ngo 0 c")), ("differs", (0, 1), (1, 0, 0)))
        wide_machine = Machine.read("late 0\nwidth 3\nmake calc 1\ngive send")
        code = Code.read(wide_machine, "a = calc ; b = calc\nsend a b")
        self.assertEqual(same(code, Code.read(wide_machine, "b = calc ; a = calc\nsend b a"))[0], "same")
        self.assertEqual(same(code, Code.read(wide_machine, "b = calc ; a = calc\nsend a b")), ("differs", (0, 1), (1, 0, 0)))

    def test_sources_that_stand_for_a_write(self):
        code = plain("r = calc / send r")
        point = (0, 1)
        self.assertEqual(same(code, code)[1], ((point, point, ("by", 1, 0), ("by", 1, 0)),))

    def test_the_table_of_codes_that_read_nothing(self):
        self.assertEqual(same(plain("r = calc / -"), plain("s = calc / -")), ("same", ()))
        self.assertEqual(same(plain("- / -"), plain("- / go 0"), rows=(0, None)), ("strays", (0,), 0))

    def test_more_than_800_joint_points(self):
        code = jumping(GOALS_800)
        self.assertEqual(len(list(points(code))), 800)
        self.assertEqual(same(code, hasty(code))[0], "same")
        other, rows = put_ahead(hasty(code), 1)
        self.assertLess(len(list(points(other))), 800)
        for call in (lambda: same(code, other, rows=rows), lambda: shows_same(code, other, (), rows=rows),
                     lambda: shows_apart(code, other, None, rows=rows), lambda: same(code, other, rows=rows, starts={})):
            with self.assertRaises(TooMany) as caught:
                call()
            self.assertEqual(caught.exception.most, 800)
        # Fewer spare rows and points again.
        small = jumping(GOALS_800[:9] + [None] * 3 + GOALS_800[12:13])
        other, rows = put_ahead(hasty(small), 3)
        self.assertEqual(same(small, other, rows=rows)[0], "same")

    def test_forty_rows_and_nearly_eight_hundred_points(self):
        for code in (wide(), wide(13)):
            told = same(code, Code.of(code.machine, code.rows))
            self.assertEqual(told[0], "same")
            self.assertIs(shows_same(code, Code.of(code.machine, code.rows), told[1]), True)
            told = same(code, code, starts={name: name for name in code.registers[1:]})
            self.assertEqual(told[0], "differs")
            self.assertIs(shows_apart(code, code, told, starts={name: name for name in code.registers[1:]}), True)

    def test_one_beside_another_and_another(self):
        first = plain("r = calc / send r / go 0 r")
        second, third = plain("s = calc / - / send s / go 0 s"), plain("- / t = calc / - / - / send t / go 6 / go 1 t")
        stands, behind = (0, None, 1, 2), (None, 0, 1, None, 2, None, 3)
        self.assertEqual(same(first, second, rows=stands, starts={"s": "r"})[0], "same")
        self.assertEqual(same(second, third, rows=behind, starts={"t": "s"})[0], "same")
        over = tuple(None if row is None else stands[row] for row in behind)
        self.assertEqual(same(first, third, rows=over, starts={"t": "r"})[0], "same")

    def test_what_is_passed_stays_as_it_was(self):
        starts = {"s": "s", "r": "r"}
        code = Code.of(A.machine, A.rows, alike=A.alike)
        self.assertEqual(same(code, code, starts=starts), same(code, code, starts={"r": "r", "s": "s"}))
        self.assertEqual((starts, list(starts), code, str(code)), ({"s": "s", "r": "r"}, ["s", "r"], A, str(A)))


class MapTest(unittest.TestCase):
    """Rows and starts that do not fit, for same and for both checks."""

    def refuse(self, error, fields, code, other, **maps):
        for call in (lambda: same(code, other, **maps), lambda: shows_same(code, other, ((),), **maps),
                     lambda: shows_apart(code, other, (), **maps)):
            with self.assertRaises(error) as caught:
                call()
            self.assertIs(type(caught.exception), error)
            self.assertEqual(list(vars(caught.exception).values()), [fields], maps)

    def test_rows_that_are_no_tuple(self):
        for value in odd_values() + [[0, 1, 2, 3], "0123", {0: 0, 1: 1, 2: 2, 3: 3}, 4]:
            if value is not None and not isinstance(value, tuple):
                self.refuse(InvalidMap, 0, A, A, rows=value)

    def test_entries_that_are_no_rows(self):
        for value in odd_values() + [4, 1.0, "1", (1,), [1], 10 ** 59]:
            if value is not None:
                self.refuse(InvalidMap, 1, A, A, rows=(0, value, 2, 3))
                self.refuse(InvalidMap, 1, A, A, rows=(0, value, True, 3))
        self.assertEqual(same(A, A, rows=(0, None, 2, 3)), ("strays", (0,), 2))
        self.refuse(InvalidMap, 0, A, A, rows=(False, 1, 2, 3))
        self.refuse(InvalidMap, 1, A, A, rows=(0, True, 2, 3))

    def test_too_few_and_too_many(self):
        for rows, index in [((), 0), ((0,), 1), ((0, 1, 2), 3), ((0, 1, 2, 3, None), 4), ((0, 1, 2, 3, 9, 9), 4),
                            ((0, 2, 1), 1), ((0, 1, 3, 2, 0), 2), (tuple(range(2000)), 4)]:
            self.refuse(InvalidMap, index, A, A, rows=rows)
        # With no rows told there is an entry for each row of the other, also where the code has no such row.
        self.refuse(InvalidMap, 2, plain("- / -"), plain("- / - / -"))
        self.assertEqual(same(plain("- / -"), plain("-")), ("strays", (0,), 2))

    def test_rows_that_are_not_akin(self):
        code = plain("r = calc / r = calc a / send r / send r s / go 0 / go 0 r / -")
        for right, text in enumerate(["x = calc", "x = calc y", "send x", "send x x", "go 1", "go 1 x", "-"]):
            for row in range(7):
                if row == right:
                    self.assertIn(same(code, plain(text), rows=(row,))[0], ("strays", "lacks"))
                else:
                    self.refuse(InvalidMap, 0, code, plain(text), rows=(row,))
        # The sorts count, not the kinds; their order counts.
        machine = Machine.read("late 0\nwidth 2\ncopy move 3\ncopy keep 1\nmake calc 2\ngive send")
        code = Code.read(machine, "a = move b ; send a")
        self.assertEqual(same(code, Code.read(machine, "b = keep a ; send a"), starts={"a": "b", "b": "a"})[0], "differs")
        self.refuse(InvalidMap, 0, code, Code.read(machine, "send a ; a = move b"))
        self.refuse(InvalidMap, 0, code, Code.read(machine, "a = calc b ; send a"))
        self.refuse(InvalidMap, 0, code, Code.read(machine, "a = move b"))

    def test_spare_rows_with_operations(self):
        code = plain("r = calc / send r / go 0 r / go 0 / -")
        for at in range(5):
            rows = tuple(None if row == at else row for row in range(5))
            if at < 3:
                self.refuse(InvalidMap, at, code, code, rows=rows)
            else:
                self.assertIn(same(code, code, rows=rows)[0], ("strays", "lacks", "same"))
        machine = Machine.read("late 0\nwidth 2\nmake calc 2\ngive send\njump go")
        code = Code.read(machine, "go 1 ; r = calc\n-")
        self.refuse(InvalidMap, 0, code, code, rows=(None, 1))

    def test_late_rows_and_their_jumps(self):
        code = Code.read(Machine.read("late 2\nwidth 2\nmake calc 2\njump go"), "-\ngo 0\n-\n-\n-")
        for rows, index in [((0, None, 2, 3, 4), 2), ((0, None, None, 3, 4), 3), ((0, 1, None, 3, 4), 2), ((0, 1, 2, None, 4), 3),
                            ((0, 1, None, None, 4), 2), ((0, 1, 2, None, 9), 3), ((9, 1, 2, None, 4), 0),
                            ((0, None, None, 2), 3), ((0, None, 2), 2), ((0, 9, None, None, 0), 1)]:
            self.refuse(InvalidMap, index, code, code, rows=rows)
        for rows in [(0, None, None, None, 4), (0, 1, 2, 3, None), (None, 1, 2, 3, 4)]:
            self.assertIn(same(code, code, rows=rows)[0], ("same", "strays", "lacks"))

    def test_starts_that_are_no_dict_of_names(self):
        for value in odd_values():
            if value is not None and value != {} and value != {"r": 1}:
                self.refuse(InvalidMap, None, A, A, starts=value)
        for value in [{"r": 1}, {1: "r"}, {"R": "r"}, {"r": "R"}, {"r": ""}, {"": "r"}, {"r": "s", None: "r"}, {"r": None},
                      {"r": ("r",)}, {("r",): "r"}, {"r": "r", "abcdefghi": "r"}, {"q": "q", "r": "r2"}, [("r", "r")]]:
            self.refuse(InvalidMap, None, A, A, starts=value)
        self.assertEqual(same(A, A, starts={}), ("differs", (0,), (0, 0, 0)))

    def test_starts_with_names_that_are_no_registers(self):
        code, other = plain("send r / send s"), plain("send x / send y")
        for starts, name in [({"r": "r"}, "r"), ({"x": "x"}, "x"), ({"x": "r", "y": "q"}, "q"), ({"y": "q", "x": "z"}, "z"),
                             ({"y": "q", "b": "z"}, "b"), ({"alike": "alike"}, "alike"), ({"z": "r", "x": "a"}, "a")]:
            self.refuse(NoName, name, code, other, starts=starts)
        self.assertEqual(same(code, other, starts={"y": "s", "x": "r"})[0], "same")
        self.assertEqual(same(code, other), ("differs", (0,), (0, 0, 0)))

    def test_several_wrong_things_at_once(self):
        many, many_other = jumping(GOALS_801), clashing(GOALS_800, 4)
        code = jumping(GOALS_800)
        other, _ = put_ahead(hasty(code), 1)
        self.refuse(InvalidMap, 0, code, other, rows=5, starts=5)
        self.refuse(InvalidMap, None, code, code, starts=5)
        self.refuse(InvalidMap, None, code, other, rows=put_ahead(hasty(code), 1)[1], starts={"r": "r", "x": 1})
        self.refuse(NoName, "r", code, other, rows=put_ahead(hasty(code), 1)[1], starts={"r": "r"})
        self.refuse(TooMany, 800, many, many_other, rows=5)
        self.refuse(TooMany, 800, A, many, rows=5, starts=5)
        for pair in ((many_other, many), (many_other, A), (A, many_other), (many_other, clashing(GOALS_800, 3))):
            for call in (lambda: same(*pair, rows=5), lambda: shows_same(*pair, 5, starts=5), lambda: shows_apart(*pair, 5)):
                with self.assertRaises(Clash) as caught:
                    call()
                wrong = clash(pair[0]) if pair[0] is not A else clash(pair[1])
                self.assertEqual((caught.exception.way, caught.exception.name), wrong)


if __name__ == "__main__":
    unittest.main()
