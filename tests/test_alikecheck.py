import unittest

from latelands.alike import alike, names
from latelands.alikecheck import shows_alike, shows_unlike
from latelands.errors import Clash, NoName, NoPoint, TooMany
from latelands.landings import clash
from latelands.ways import points
from tests import oracle
from tests.helpers import (A, A_TEXT, D, GOALS_800, GOALS_801, clashing, code_of, jumping, nested, odd_values, slow_code,
                           spoilt, twisted, wide)

P = (0, 1, 2, 3)


def by(back, index):
    return ("by", back, index)


def held(name):
    return ("in", name)


def codes(seed, many):
    found = [code for code in oracle.random_codes(seed, many, 5) if clash(code) is None]
    return [A, D] + [code for code in found if len(list(points(code))) <= 40]


class AlikeCheckTest(unittest.TestCase):

    def test_what_alike_tells(self):
        kinds = []
        for code in codes(41, 60):
            for point in list(points(code))[::2]:
                for one in names(code, point):
                    for other in names(code, point):
                        kind, paper = alike(code, point, one, other)
                        self.assertIs(shows_alike(code, point, one, other, paper), kind == "alike")
                        self.assertIs(shows_unlike(code, point, one, other, paper), kind == "unlike")
                        kinds.append(kind)
        self.assertGreater(kinds.count("alike"), 500)
        self.assertGreater(kinds.count("unlike"), 500)

    def test_by_position_and_by_name(self):
        table = alike(A, (0, 1), by(1, 0), held("r"))[1]
        self.assertIs(shows_alike(code=A, point=(0, 1), one=held("r"), other=by(1, 0), table=table), True)
        self.assertIs(shows_unlike(code=A, point=P, one=held("r"), other=by(1, 0), way=(0, 1, 2)), True)

    def test_tables_in_another_order_and_with_more(self):
        for code in codes(42, 40):
            known = list(points(code))
            for point in known[-3:]:
                for one in names(code, point):
                    kind, table = alike(code, point, held(code.registers[0]), one)
                    if kind == "unlike":
                        continue
                    self.assertIs(shows_alike(code, point, one, held(code.registers[0]), table[::-1] + table), True)
                    more = alike(code, known[-1], names(code, known[-1])[0], held(code.registers[0]))
                    if more[0] == "alike":
                        self.assertIs(shows_alike(code, point, one, held(code.registers[0]), more[1] + table), True)

    def test_tables_with_a_tuple_left_out_or_changed(self):
        # Each of the tuples rests on the one before, so none can be left out.
        table = alike(A, P, by(3, 0), held("r"))[1]
        self.assertEqual(len(table), 4)
        for at in range(4):
            self.assertIs(shows_alike(A, P, by(3, 0), held("r"), table[:at] + table[at + 1:]), False)
        point = P + (4,)
        wrong = ((point, by(4, 0), held("r")), (point, held("r"), by(4, 0)), (point, held("r"), held("r")),
                 (point, by(4, 1), held("s")), (point, by(6, 0), held("s")), (point, held("r"), held("t")),
                 ((0,), by(1, 0), held("r")), ((0, 2), held("r"), held("s")), ((0, 1), held("s"), held("r")),
                 (P, by(1, 0), by(3, 0)))
        for each in wrong:
            self.assertIs(shows_alike(A, P, by(3, 0), held("r"), table + (each,)), False, each)
            self.assertIs(shows_alike(A, P, by(3, 0), held("r"), (each,) + table), False, each)
        self.assertIs(shows_alike(A, P, by(3, 0), held("r"), table + ((point, by(2, 0), held("r")),)), True)

    def test_that_it_holds_exactly_what_the_document_says(self):
        many = 0
        for code in codes(43, 25):
            known = list(points(code))
            point = known[-1]
            for one in names(code, point)[:3]:
                for other in names(code, point)[-3:]:
                    kind, table = alike(code, point, one, other)
                    for some in spoilt(table[-4:]) if kind == "alike" and len(table) < 9 else ():
                        some = table[:-4] + some if isinstance(some, tuple) else some
                        right = self.holds(code, known, point, one, other, some)
                        self.assertIs(shows_alike(code, point, one, other, some), right, some)
                        many += right
        self.assertGreater(many, 100)

    def holds(self, code, known, point, one, other, some):
        try:
            return (isinstance(some, tuple) and all(len(each) == 3 and isinstance(each, tuple) for each in some)
                    and oracle.holds(code, set(some), known)
                    and (one == other or (point, min(one, other), max(one, other)) in some))
        except TypeError:
            return False

    def test_lists_for_tuples_and_true_for_one(self):
        table = alike(A, P, by(3, 0), held("r"))[1]
        for some in twisted(table):
            self.assertIs(shows_alike(A, P, by(3, 0), held("r"), some), False, some)
        for way in twisted((0, 1, 2)):
            self.assertIs(shows_unlike(A, P, held("r"), by(1, 0), way), False, way)

    def test_values_that_are_no_tables(self):
        table = alike(A, P, by(3, 0), held("r"))[1]
        for value in odd_values() + [nested(1, 200), {table[0]: True}, list(table), table[0][:2], nested(table[0], 199)]:
            self.assertIs(shows_alike(A, P, by(3, 0), held("r"), value), False)
            self.assertIs(shows_alike(A, P, by(3, 0), held("r"), (value,)), False)
            self.assertIs(shows_alike(A, P, by(3, 0), held("r"), table + (value,)), False)
            for at in range(3):
                some = table[0][:at] + (value,) + table[0][at + 1:]
                self.assertIs(shows_alike(A, P, by(3, 0), held("r"), table + (some,)), False)
            some = (((0, value), held("r"), held("s")), ((0,), ("in", value), held("s")), ((0,), (value, "r"), held("s")),
                    ((0, 1), ("by", value, 0), held("s")), ((0, 1), ("by", 1, value), held("s")))
            for each in some:
                self.assertIs(shows_alike(A, P, by(3, 0), held("r"), table + (each,)), False, each)

    def test_one_name(self):
        table = alike(A, P, by(3, 0), held("r"))[1]
        for name in names(A, P):
            for some in ((), table, table[:1]):
                self.assertIs(shows_alike(A, P, name, name, some), True)
            for some in (table[1:], [], None, list(table), ((),)):
                self.assertIs(shows_alike(A, P, name, name, some), False)
            self.assertIs(shows_unlike(A, P, name, name, (0, 1, 2)), False)

    def test_two_names_that_stand_for_one(self):
        # Their tuple holds by itself, but it must be there.
        point = P + (4,)
        self.assertIs(shows_alike(A, point, held("r"), by(2, 0), ()), False)
        self.assertIs(shows_alike(A, point, held("r"), by(2, 0), ((point, by(2, 0), held("r")),)), True)
        self.assertIs(shows_alike(A, point, held("r"), by(2, 0), ((point, held("r"), by(2, 0)),)), False)

    def test_points_that_come_behind_two(self):
        # What is alike on one way alone is not alike.
        code = code_of("go 3 c / send a / go 4 / a = keep b / send a b")
        table = alike(code, (3, 4), held("a"), held("b"))[1]
        self.assertIs(shows_alike(code, (3, 4), held("a"), held("b"), table), True)
        wrong = table + (((4, 5), held("a"), held("b")),)
        self.assertIs(shows_alike(code, (4, 5), held("a"), held("b"), wrong), False)

    def test_ways(self):
        for code in codes(44, 30):
            rows = len(code) + 2 if len(code) < 5 else 6
            for way in oracle.ways_up_to(code, rows)[::3]:
                for point in oracle.points_of_way(code, way):
                    found = names(code, point)
                    for one, other in zip(found, found[1:] + found[:1]):
                        unlike = oracle.value(code, way, one) != oracle.value(code, way, other)
                        self.assertIs(shows_unlike(code, point, one, other, way), unlike)

    def test_ways_that_are_longer_or_none(self):
        point = (1, 2, 3, 0, 1, 2)
        for turns in (1, 2, 3, 400):
            self.assertIs(shows_unlike(D, point, held("r"), by(2, 0), P * turns + (0, 1)), True)
            self.assertIs(shows_unlike(D, point, by(2, 0), held("c"), P * turns + (0, 1)), True)
            # Ways that lead to other points, that end too early, and that go on.
            for way in (P * turns, P * turns + (0,), P * turns + (0, 1, 2), (0, 1), P * turns + (0, 2),
                        list(P * turns + (0, 1)), P * turns + (0, 1, 4), P * turns + (0, True)):
                self.assertIs(shows_unlike(D, point, held("r"), by(2, 0), way), False, way)
        self.assertIs(shows_unlike(D, (3, 0, 1, 2, 3, 4), held("r"), by(4, 0), P * 2), True)
        self.assertIs(shows_unlike(D, (3, 0, 1, 2, 3, 4), held("r"), by(4, 0), P), False)
        for value in odd_values() + [nested(0, 200), (nested(0, 200),), (0, {}), P * 49999 + (None,)]:
            self.assertIs(shows_unlike(D, point, held("r"), by(2, 0), value), False)
        self.assertIs(shows_unlike(D, (0,), held("r"), held("c"), ()), True)
        self.assertIs(shows_unlike(A, (0,), held("r"), held("s"), ()), False)

    def test_errors_in_their_order(self):
        for check in (shows_alike, shows_unlike):
            for code in (jumping(GOALS_801), clashing(GOALS_801, 3)):
                with self.assertRaises(TooMany) as caught:
                    check(code, 5, 5, 5, 5)
                self.assertEqual(caught.exception.most, 800)
            with self.assertRaises(Clash) as caught:
                check(clashing(GOALS_800, 4), 5, 5, 5, 5)
            self.assertEqual((caught.exception.way, caught.exception.name), clash(clashing(GOALS_800, 4)))
            for value in [(1,), (0, 2), (0, True), [0]] + odd_values():
                with self.assertRaises(NoPoint) as caught:
                    check(A, value, 5, 5, 5)
                self.assertIs(caught.exception.point, value)
                with self.assertRaises(NoName) as caught:
                    check(A, P, value, 5, 5)
                self.assertIs(caught.exception.name, value)
                with self.assertRaises(NoName) as caught:
                    check(A, P, held("r"), value, 5)
                self.assertIs(caught.exception.name, value)
            with self.assertRaises(NoName) as caught:
                check(A, P, held("x"), held("y"), ())
            self.assertEqual(caught.exception.name, held("x"))

    def test_large_tables(self):
        for code in (slow_code(), wide()):
            point = list(points(code))[335]
            one, other = held(code.registers[0]), held(code.registers[1])
            kind, paper = alike(code, point, one, other)
            if kind == "unlike":
                self.assertIs(shows_unlike(code, point, one, other, paper), True)
                one, other = held("r"), held("s")
                kind, paper = alike(code, point, one, other)
            self.assertGreater(len(paper), 2000)
            self.assertIs(shows_alike(code, point, one, other, paper), True)
            for at in (0, 1000, len(paper) - 1):
                self.assertIs(shows_alike(code, point, one, other, paper[:at] + paper[at + 1:]), False)
                some = paper[:at] + (paper[at][:2] + (list(paper[at][2]),),) + paper[at + 1:]
                self.assertIs(shows_alike(code, point, one, other, some), False)

    def test_what_is_passed_stays_as_it_was(self):
        table = [((0,), held("r"), held("s"))]
        way = [0, 1]
        shows_alike(A, (0,), held("r"), held("s"), table)
        shows_unlike(A, (0,), held("r"), held("s"), way)
        self.assertEqual((table, way, str(A)), ([((0,), held("r"), held("s"))], [0, 1], A_TEXT))


if __name__ == "__main__":
    unittest.main()
