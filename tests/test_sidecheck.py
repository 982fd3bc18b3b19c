import random
import unittest

from latelands.codes import Code
from latelands.machines import Machine
from latelands.sidecheck import shows_apart, shows_same
from latelands.sides import same
from tests import oracle, oracle_sides
from tests.helpers import A, D, L, nested, odd_values, spoilt, twisted, wide
from tests.test_sides import plain, read, sides


def own(code):
    return {name: name for name in code.registers}


def in_order(code):
    return tuple(range(len(code)))


def right_or_raised(ask):
    """What the oracle says, or False where it cannot read what it is given."""
    try:
        return bool(ask())
    except (TypeError, ValueError, KeyError, IndexError, AttributeError):
        return False


class ShowsSameTest(unittest.TestCase):

    def test_all_that_same_tells(self):
        shown = 0
        for code, other, stands, starts in sides(221, 200):
            told = same(code, other, rows=stands, starts=starts)
            if told[0] == "same":
                self.assertIs(shows_same(code, other, told[1], rows=stands, starts=starts), True)
                shown += 1
            else:
                self.assertIs(shows_same(code, other, (), rows=stands, starts=starts), False)
        self.assertGreater(shown, 50)
        self.assertIs(shows_same(code=A, other=A, table=same(A, A)[1], rows=(0, 1, 2, 3), starts={"r": "r", "s": "s"}), True)
        self.assertIs(shows_same(A, A, same(A, A)[1]), True)

    def test_a_tuple_left_out_twice_or_in_another_order(self):
        chance = random.Random(222)
        left_out = 0
        for code, other, stands, starts in sides(223, 80):
            told = same(code, other, rows=stands, starts=starts)
            if told[0] != "same" or len(told[1]) > 60:
                continue
            table = told[1]
            self.assertIs(shows_same(code, other, table + table[:3], rows=stands, starts=starts), True)
            mixed = tuple(chance.sample(table, len(table)))
            self.assertIs(shows_same(code, other, mixed, rows=stands, starts=starts), True)
            for at in range(len(table)):
                some = table[:at] + table[at + 1:]
                right = oracle_sides.table_holds(code, other, stands, starts, some)
                self.assertIs(shows_same(code, other, some, rows=stands, starts=starts), right)
                left_out += not right
        self.assertGreater(left_out, 100)

    def test_more_than_needed(self):
        for code in (A, D, plain("r = calc / send r / go 0 r")):
            table = same(code, code)[1]
            known = oracle_sides.joints(code, code, in_order(code))
            for point, other_point in known:
                for name in oracle.names(code, point):
                    for other_name in oracle.names(code, other_point):
                        some = table + ((point, other_point, name, other_name),)
                        right = oracle_sides.table_holds(code, code, in_order(code), own(code), some)
                        self.assertIs(shows_same(code, code, some), right, some[-1])

    def test_all_names_that_stand_for_one(self):
        code = plain("r = calc / send r")
        point = (0, 1)
        for name in (("by", 1, 0), ("in", "r")):
            for other_name in (("by", 1, 0), ("in", "r")):
                self.assertIs(shows_same(code, code, ((point, point, name, other_name),)), True)
        # Over a spare row a name of the code that stands for another one stays what it was.
        other, stands = plain("r = calc / - / send r"), (0, None, 1)
        table = same(code, other, rows=stands)[1]
        self.assertEqual(table, ((point, (0, 1), ("by", 1, 0), ("by", 1, 0)), (point, (1, 2), ("by", 1, 0), ("in", "r"))))
        for some in [(table[0], table[1][:2] + (("in", "r"), ("in", "r"))), (table[0][:2] + (("in", "r"), ("in", "r")), table[1])]:
            self.assertIs(shows_same(code, other, some, rows=stands), True)
        self.assertIs(shows_same(code, other, table[:1], rows=stands), False)
        self.assertIs(shows_same(code, other, table[1:], rows=stands), False)

    def test_joint_points_only(self):
        code, other = plain("send r / send r"), plain("- / send r / send r")
        stands = (None, 0, 1)
        table = same(code, other, rows=stands)[1]
        names = (("in", "r"), ("in", "r"))
        self.assertIs(shows_same(code, other, table, rows=stands), True)
        for joint in [((0,), (0,)), ((0,), (0, 1)), ((0, 1), (1, 2)), ((1, 2), (2, 3))]:
            self.assertIs(shows_same(code, other, table + (joint + names,), rows=stands), True, joint)
        for joint in [((0,), (1, 2)), ((0, 1), (0, 1)), ((0, 1), (0,)), ((0, 2), (1, 2)), ((1,), (0,)), ((), ()), ((0, 1),) * 2]:
            self.assertIs(shows_same(code, other, table + (joint + names,), rows=stands), False, joint)

    def test_what_is_new_has_one_index(self):
        machine = Machine.read("late 0\nwidth 2\nmake calc 1\ngive send")
        code = Code.read(machine, "a = calc ; b = calc\nsend a")
        other = Code.read(machine, "b = calc ; a = calc\nsend b")
        table = same(code, other)[1]
        point = (0, 1)
        self.assertEqual(table, ((point, point, ("by", 1, 0), ("by", 1, 0)),))
        for name, other_name, right in [(0, 0, True), (1, 1, True), (0, 1, False), (1, 0, False)]:
            some = table + ((point, point, ("by", 1, name), ("by", 1, other_name)),)
            self.assertIs(shows_same(code, other, some), right)
        self.assertIs(shows_same(code, Code.read(machine, "b = calc ; a = calc\nsend a"), table), False)

    def test_entries(self):
        code = read("alike r s / send r / send s")
        first = ((0,), (0,))
        table = same(code, code)[1]
        for name, other_name, starts, right in [("r", "s", {"r": "r", "s": "s"}, True), ("s", "r", {"r": "s", "s": "r"}, True),
                                                ("r", "r", {"r": "s", "s": "r"}, True)]:
            some = table + (first + (("in", name), ("in", other_name)),)
            self.assertIs(shows_same(code, code, some, starts=starts), right)
        apart = read("send r / send s")
        table = same(apart, apart)[1]
        self.assertIs(shows_same(apart, apart, table + (first + (("in", "r"), ("in", "s")),)), False)
        self.assertIs(shows_same(apart, apart, table, starts={"r": "r"}), False)
        self.assertIs(shows_same(apart, apart, table, starts={"r": "s", "s": "r"}), False)
        # A register that is no key begins with a value of its own.
        self.assertIs(shows_same(apart, read("send r / send s"), table, starts={}), False)

    def test_rows_that_stray_or_lack(self):
        code = plain("- / go 0 r")
        table = same(code, code)[1]
        self.assertIs(shows_same(code, code, table), True)
        for other in (plain("- / go 1 r"), plain("- / go 2 r")):
            self.assertIn(same(code, other)[0], ("strays", "lacks"))
            for some in (table, ()):
                self.assertIs(shows_same(code, other, some), False)

    def test_right_tables_of_codes_of_which_one_only_strays_or_only_lacks(self):
        loop, straight_on = plain("- / go 0 r"), plain("- / go 2 r")
        names = (("in", "r"), ("in", "r"))
        table = (((0,), (0,)) + names, ((0, 1), (0, 1)) + names)
        for code, other, word in ((loop, straight_on, "lacks"), (straight_on, loop, "strays")):
            self.assertEqual(same(code, other)[0], word)
            # Each two corresponding sources read the same, wherever both codes come.
            self.assertTrue(oracle_sides.table_holds(code, other, (0, 1), own(code), table))
            self.assertIs(shows_same(code, other, table), False)

    def test_values_that_are_no_tables(self):
        table = same(A, A)[1]
        for value in odd_values():
            self.assertIs(shows_same(A, A, value), False, value)
            self.assertIs(shows_same(A, A, table + (value,)), False)
            self.assertIs(shows_same(A, A, table + ((value,) * 4,)), False)
            for at in range(4):
                self.assertIs(shows_same(A, A, table + (table[0][:at] + (value,) + table[0][at + 1:],)), False, value)
        self.assertIs(shows_same(A, A, list(table)), False)
        nothing = plain("- / -")
        for value in odd_values():
            self.assertIs(shows_same(nothing, nothing, value), value == () and isinstance(value, tuple))

    def test_tables_that_are_spoilt(self):
        for code in (A, D, L, plain("r = calc / send r / go 0 r")):
            table = same(code, code)[1]
            for some in twisted(table[:8]):
                self.assertIs(shows_same(code, code, (some if isinstance(some, list) else some + table[8:])), False, some)
            for some in list(spoilt(table[:4])):
                if isinstance(some, tuple):
                    given = some + table[4:]
                    right = right_or_raised(
                        lambda: oracle_sides.table_holds(code, code, in_order(code), own(code), given))
                    self.assertIs(shows_same(code, code, given), right, some)

    def test_deep_and_large_values(self):
        table = same(A, A)[1]
        self.assertIs(shows_same(A, A, nested(table, 190)), False)
        self.assertIs(shows_same(A, A, table + (nested(1, 190),)), False)
        self.assertIs(shows_same(A, A, table * (50000 // len(table))), True)
        self.assertIs(shows_same(A, A, table * (50000 // len(table)) + (table[0][:3] + (("in", "q"),),)), False)

    def test_what_is_passed_stays_as_it_was(self):
        starts = {"s": "s", "r": "r"}
        value = [[1, {"r": [2]}], starts]
        self.assertIs(shows_same(A, A, value, starts=starts), False)
        self.assertIs(shows_apart(A, A, value, starts=starts), False)
        self.assertEqual((value, list(starts)), ([[1, {"r": [2]}], {"r": "r", "s": "s"}], ["s", "r"]))


class ShowsApartTest(unittest.TestCase):

    def test_all_that_same_tells(self):
        words = []
        for code, other, stands, starts in sides(224, 400):
            told = same(code, other, rows=stands, starts=starts)
            words.append(told[0])
            self.assertIs(shows_apart(code, other, told, rows=stands, starts=starts), told[0] != "same")
        self.assertEqual(set(words), {"same", "strays", "lacks", "differs"})

    def test_all_ways_and_what_can_be_told_of_them(self):
        shown = {"strays": 0, "lacks": 0, "differs": 0}
        for code, other, stands, starts in sides(225, 250):
            if same(code, other, rows=stands, starts=starts)[0] == "same":
                continue
            for way in oracle.ways_up_to(other, 5):
                for word, right in self.right_papers(code, other, stands, starts, way):
                    for told in [None, (), *range(len(code) + 2), *self.changes(way)]:
                        paper = (word, way, told)
                        self.assertIs(shows_apart(code, other, paper, rows=stands, starts=starts), told in right, paper)
                    shown[word] += len(right)
        for word in shown:
            self.assertGreater(shown[word], 20, shown)

    def right_papers(self, code, other, stands, starts, way):
        """For each word what can be told of a way, a list."""
        if not oracle_sides.looked_at(code, other, stands, way):
            return [("strays", []), ("lacks", []), ("differs", [])]
        change = oracle_sides.change(code, other, stands, starts, way)
        return [("strays", oracle_sides.strays(code, other, stands, way)),
                ("lacks", oracle_sides.lacks(code, other, stands, way)), ("differs", [change] if change else [])]

    def changes(self, way):
        return [(len(way) - 1 + more, index, place) for more in (-1, 0, 1) for index in range(3) for place in range(2)]

    def test_two_rows_that_stray_or_lack(self):
        code = plain("go 3 r / - / - / -")
        other = plain("go 2 r / - / - / -")
        # At the row 0 the code goes on to 1 or 3, the other to what stands for 0 or 2.
        stands = (0, 2, 1, 3)
        self.assertEqual(same(code, other, rows=stands), ("strays", (0,), 2))
        for word, told, right in [("strays", 2, True), ("strays", 1, False), ("strays", 3, False), ("lacks", 3, True),
                                  ("lacks", 1, False), ("lacks", 2, False), ("strays", None, False), ("lacks", None, False)]:
            self.assertIs(shows_apart(code, other, (word, (0,), told), rows=stands), right, (word, told))
        # Both rows stray and both are lacking.
        other, stands = plain("go 2 r / - / - / -"), (0, 2, 2, 1)
        self.assertIs(shows_apart(code, other, ("strays", (0,), 2), rows=stands), True)
        for told in (1, 3):
            self.assertIs(shows_apart(code, other, ("lacks", (0,), told), rows=stands), True)
        other, stands = plain("go 2 r / go 4 / - / -"), (0, None, 2, 3)
        for told in (2, 4):
            self.assertIs(shows_apart(code, other, ("strays", (0,), told), rows=stands), True)
        self.assertEqual(same(code, other, rows=stands), ("strays", (0,), 2))

    def test_none_only_for_going_round_for_ever_with_no_other_row(self):
        code = plain("go 3 r / - / - / -")
        # One way leads round for ever, the other one to a next row, to another row, and to the end.
        for text, stands, strays in [("go 2 r / go 1 / -", (0, None, 1), None), ("go 2 r / go 1 / -", (0, None, 2), 2),
                                     ("go 3 r / go 1 / -", (0, None, 1), 4)]:
            other = plain(text)
            self.assertEqual(same(code, other, rows=stands), ("strays", (0,), strays))
            for told in (None, 0, 1, 2, 3, 4, 5):
                self.assertIs(shows_apart(code, other, ("strays", (0,), told), rows=stands), told == strays, (text, told))
        self.assertIs(shows_apart(code, code, ("strays", (0,), None)), False)
        # The empty way, too, can stray to none, and then lacks the row 0.
        other, stands = plain("go 0 / go 3 r / - / - / -"), (None, 0, 1, 2, 3)
        self.assertIs(shows_apart(code, other, ("strays", (), None), rows=stands), True)
        self.assertIs(shows_apart(code, other, ("lacks", (), 0), rows=stands), True)
        self.assertIs(shows_apart(code, other, ("lacks", (), 1), rows=stands), False)
        self.assertIs(shows_apart(code, other, ("strays", (), 0), rows=stands), False)

    def test_longer_ways(self):
        code = plain("r = calc / send r / go 0 r")
        other = plain("r = calc / send r / go 1 r")
        self.assertEqual(same(code, other), ("strays", (0, 1, 2), 1))
        self.assertIs(shows_apart(code, other, ("strays", (0, 1, 2), 1)), True)
        # The image of this way is no way of the code.
        self.assertIs(shows_apart(code, other, ("strays", (0, 1, 2, 1, 2), 1)), False)
        slow = Code.read(Machine.read("late 0\nwidth 1\nmake calc 3\ngive send\njump go"), "r = calc\nsend r\ngo 0 r")
        self.assertEqual(same(code, slow), ("differs", (0, 1), (1, 0, 0)))
        for turns in range(1, 400, 57):
            way = (0, 1, 2) * turns + (0, 1)
            self.assertIs(shows_apart(code, slow, ("differs", way, (len(way) - 1, 0, 0))), True)
            # The change of an earlier row is not that of the last one.
            self.assertIs(shows_apart(code, slow, ("differs", way, (1, 0, 0))), False)
            self.assertIs(shows_apart(code, slow, ("differs", way + (2,), (1, 0, 0))), False)
            self.assertIs(shows_apart(code, slow, ("differs", way[:-1], (len(way) - 2, 0, 0))), False)
        way = (0, 1, 2) * 40000 + (0, 1)
        self.assertIs(shows_apart(code, slow, ("differs", way, (len(way) - 1, 0, 0))), True)
        self.assertIs(shows_apart(code, slow, ("differs", way[:-1] + (2,), (len(way) - 1, 0, 0))), False)

    def test_whatever_else_strays_or_lacks(self):
        code = plain("send r / go 0 r / send r / go 2 r")
        other = plain("send s / go 1 r / send r / go 4 r")
        self.assertEqual(same(code, other), ("strays", (0, 1), 1))
        for paper in [("strays", (0, 1), 1), ("lacks", (0, 1), 0), ("lacks", (0, 1, 2, 3), 2), ("differs", (0,), (0, 0, 0))]:
            self.assertIs(shows_apart(code, other, paper), True, paper)

    def test_ways_that_end_with_a_spare_row(self):
        code, other, stands = plain("r = calc / go 0 r"), plain("r = calc / go 2 / go 1"), (0, None, None)
        self.assertEqual(same(code, other, rows=stands), ("strays", (0,), None))
        for way, right in [((0,), True), ((0, 1), False), ((0, 1, 2), False), ((), False)]:
            self.assertIs(shows_apart(code, other, ("strays", way, None), rows=stands), right, way)
            self.assertIs(shows_apart(code, other, ("lacks", way, 1), rows=stands), right, way)

    def test_the_least_change_of_the_last_row(self):
        machine = Machine.read("late 0\nwidth 3\nmake calc 1\ngive send")
        code = Code.read(machine, "send a b ; send c a")
        for starts, change in [({"a": "a"}, (0, 0, 1)), ({"a": "a", "b": "b"}, (0, 1, 0)), ({}, (0, 0, 0))]:
            for index in range(2):
                for place in range(2):
                    paper = ("differs", (0,), (0, index, place))
                    self.assertIs(shows_apart(code, code, paper, starts=starts), change == (0, index, place))

    def test_values_that_are_no_papers(self):
        code, other = plain("r = calc / go 0 r"), plain("r = calc / go 1 s")
        papers = [("strays", (0, 1), 1), ("lacks", (0, 1), 0), ("differs", (0, 1), (1, 0, 0))]
        for paper in papers:
            self.assertIs(shows_apart(code, other, paper), True)
            for some in twisted(paper):
                self.assertIs(shows_apart(code, other, some), False, some)
            for some in spoilt(paper):
                self.assertIs(shows_apart(code, other, some), False, some)
            for value in odd_values():
                self.assertIs(shows_apart(code, other, value), False)
                self.assertIs(shows_apart(code, other, (value,) + paper[1:]), False)
                self.assertIs(shows_apart(code, other, paper[:1] + (value,) + paper[2:]), False)
                self.assertIs(shows_apart(code, other, paper[:2] + (value,)), False)
        for word in ("same", "stray", "", None, "changes"):
            self.assertIs(shows_apart(code, other, (word, (0, 1), 1)), False)
        self.assertIs(shows_apart(code, other, nested(papers[0], 190)), False)
        self.assertIs(shows_apart(code, other, ("strays", (0, 1), nested(1, 190))), False)
        self.assertIs(shows_apart(code, other, ("same", ())), False)
        self.assertIs(shows_apart(code, code, ("differs", (0, 1), None)), False)
        self.assertIs(shows_apart(code, code, ("differs", (), None)), False)

    def test_forty_rows_and_nearly_eight_hundred_points(self):
        code = wide()
        starts = {name: name for name in code.registers[1:]}
        told = same(code, code, starts=starts)
        self.assertIs(shows_apart(code, code, told, starts=starts), True)
        self.assertIs(shows_apart(code, code, told), False)
        self.assertIs(shows_apart(code, code, ("lacks", told[1], 0), starts=starts), False)


if __name__ == "__main__":
    unittest.main()
