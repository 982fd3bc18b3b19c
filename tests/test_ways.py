import unittest

from latelands.codes import Code
from latelands.errors import InvalidLimit, NoPoint, NoRow, TooMany
from latelands.ways import count_points, is_point, is_way, points, points_after, points_before, way_to, ways
from tests import oracle
from tests.helpers import A, D, GOALS_800, GOALS_801, L, M, code_of, jumping, odd_values

# No way leads to the row 1; the rows 4 and 5 go round for ever.
LOST = code_of("go 2 / go 4 / go 4 c / send a / b = two / go 4")
# Jumps that may go two ways, one of them to its own row.
SPLIT = code_of("go 2 c / go 1 c / go 0 c ; a = three")


class WaysTest(unittest.TestCase):

    def test_the_examples(self):
        shown = [list(ways(D, 5)), way_to(D, 4), list(points(D))[:3], points_before(D, (0, 1, 2, 3, 0))]
        self.assertEqual(shown, [[(0, 1, 2, 3, 0)], (0, 1, 2, 3), [(0,), (0, 1), (0, 1, 2)], ((0, 1, 2, 3),)])

    def test_is_way(self):
        for way in [(), (0,), (0, 1), (0, 1, 2, 3), (0, 1, 2, 3, 0), (0, 1, 2, 3) * 500]:
            self.assertIs(is_way(D, way), True)
            self.assertIs(is_way(D, list(way)), False)
        for way in [(1,), (4,), (-1,), (0, 0), (0, 2), (0, 1, 2, 0), (0, 1, 2, 3, 4), (0, 1, 2, 3, 1), (0, 1, 3), (0, -3),
                    (0, True), (False, 1), (False,), (0, None), (0, (1,)), ("0",), ((0,),), (0, 1, 2, 3, False)]:
            self.assertIs(is_way(D, way), False, way)
        for value in odd_values() + ["0", {0: 0}, D, (0, 1, 2, 3) * 500 + (1,)]:
            self.assertIs(is_way(D, value), value == (), value)
        self.assertIs(is_way(code=SPLIT, value=(0, 2, 0, 1, 1, 1, 2)), True)
        self.assertIs(is_way(SPLIT, (0, 2, 3)), False)

    def test_ways(self):
        for code in [A, D, L, LOST, SPLIT] + oracle.random_codes(3, 60):
            for steps in range(7):
                self.assertEqual(list(ways(code, steps)), oracle.ways_of(code, steps))
        self.assertEqual(list(ways(A, 0)), [()])
        self.assertEqual(list(ways(code=A, steps=4)), [(0, 1, 2, 3)])
        self.assertEqual(list(ways(A, 5)), [])
        self.assertEqual(list(ways(SPLIT, 3)), [(0, 1, 1), (0, 1, 2), (0, 2, 0)])
        self.assertEqual(len(list(ways(SPLIT, 12))), len(oracle.ways_of(SPLIT, 12)))
        self.assertEqual(list(ways(D, 12)), [(0, 1, 2, 3) * 3])

    def test_limit_of_ways(self):
        for value in [-1, 13, 100] + odd_values() + ["1", (1,)]:
            asked = ways(D, value)
            with self.assertRaises(InvalidLimit) as caught:
                next(asked)
            self.assertIs(caught.exception.value, value)

    def test_generators_asked_by_turns(self):
        one, other, places = ways(SPLIT, 3), ways(SPLIT, 4), points(SPLIT)
        told = [(next(one), next(other), next(places)) for _ in range(3)]
        self.assertEqual(told, list(zip(ways(SPLIT, 3), ways(SPLIT, 4), points(SPLIT))))

    def test_way_to(self):
        for code in [A, D, L, LOST, SPLIT] + oracle.random_codes(4, 100):
            known = oracle.ways_up_to(code, len(code))
            for row in range(len(code) + 1):
                right = [way for way in known if way and row in (way[-1], *oracle.next_rows(code, way[-1]))
                         and (way[-1] == row or row == len(code))]
                self.assertEqual(way_to(code, row), right[0] if right else None)
        self.assertEqual(way_to(A, 0), (0,))
        self.assertEqual([way_to(LOST, row) for row in (0, 1, 2, 3, 4, 5, 6)],
                         [(0,), None, (0, 2), (0, 2, 3), (0, 2, 4), (0, 2, 4, 5), None])
        self.assertEqual(way_to(code=SPLIT, row=3), (0, 2))

    def test_the_least_of_the_shortest_ways(self):
        code = code_of("go 3 c / go 3 c / go 5 / go 5 / go 5 / send a ; go 7 c / -")
        self.assertEqual(way_to(code, 5), (0, 3, 5))
        code = code_of("go 2 c / go 3 / go 3 / send a / go 0 c")
        self.assertEqual([way_to(code, row) for row in (3, 5)], [(0, 1, 3), (0, 1, 3, 4)])
        code = code_of("go 3 c / go 6 c / go 6 / go 5 c / go 6 / go 6")
        self.assertEqual(way_to(code, 6), (0, 1))

    def test_no_row(self):
        for value in [5, -1, 6, 40] + odd_values() + ["0", (0,)]:
            with self.assertRaises(NoRow) as caught:
                way_to(A, value)
            self.assertIs(caught.exception.row, value)


class PointsTest(unittest.TestCase):

    def test_points_of_the_examples(self):
        self.assertEqual(list(points(A)), [(0,), (0, 1), (0, 1, 2), (0, 1, 2, 3), (0, 1, 2, 3, 4)])
        self.assertEqual(list(points(D)), [(0,), (0, 1), (0, 1, 2), (0, 1, 2, 3), (0, 1, 2, 3, 0), (0, 1, 2, 3, 4),
                                           (0, 1, 2, 3, 0, 1), (1, 2, 3, 0, 1, 2), (2, 3, 0, 1, 2, 3),
                                           (3, 0, 1, 2, 3, 0), (3, 0, 1, 2, 3, 4)])

    def test_points_of_many_codes(self):
        for code in [A, D, L, LOST, SPLIT, code_of("-"), code_of("go 0")] + oracle.random_codes(5, 100, 4):
            known = oracle.points(code, len(code) + oracle.reach(code))
            self.assertEqual(list(points(code=code)), known)
            for point in known:
                self.assertIs(is_point(code, point), True)
                after = {(point + (row,))[-oracle.reach(code) - 1:]
                         for row in (oracle.next_rows(code, point[-1]) if point[-1] < len(code) else [])}
                self.assertEqual(points_after(code, point), tuple(sorted(after)))
                self.assertEqual(points_before(code, point), tuple(sorted(oracle.before(code, point, known))))

    def test_points_before_of_both_lengths(self):
        code = code_of("a = two / go 0 c")
        self.assertEqual(points_before(code, (0, 1, 0)), ((0, 1), (1, 0, 1)))
        self.assertEqual(points_before(code, (0, 1, 2)), ((0, 1), (1, 0, 1)))
        self.assertEqual(points_before(code, (1, 0, 1)), ((0, 1, 0),))
        code = code_of("a = one ; go 0 c")
        self.assertEqual(points_before(code, (0, 0)), ((0,), (0, 0)))
        self.assertEqual(points_after(code, (0, 0)), ((0, 0), (0, 1)))
        self.assertEqual(points_before(code, (0,)), ())

    def test_rows_to_which_no_way_leads(self):
        self.assertNotIn(1, [row for point in points(LOST) for row in point])
        self.assertIs(is_point(LOST, (1, 4, 5)), False)
        self.assertIs(is_point(LOST, (2, 4, 5)), True)
        self.assertIs(is_point(LOST, (1, 2, 4)), False)
        self.assertEqual(LOST.reach, 2)
        self.assertEqual(points_before(LOST, (4, 5, 4)), ((2, 4, 5), (3, 4, 5), (5, 4, 5)))
        self.assertEqual(LOST.rows_before(4), (1, 2, 3, 5))

    def test_is_point(self):
        for value in [(1,), (4,), (0, 0), (0, 2), (0, 1, 2, 3, 1), (0, 1, 2, 3, 4, 4), (0, 1, 2, 3, 4, 0), (1, 2),
                      (1, 2, 3, 0), (1, 2, 3, 0, 1), (0, 1, 2, 3, 0, 1, 2), (2, 3, 0, 1, 2, 0), (1, 2, 3, 4, 0, 1),
                      (-1, 0, 1, 2, 3, 0), (4, 0, 1, 2, 3, 0), (0, 1, 2, 3, 5), (0, True), (False,), (False, 1), (0, "1"),
                      (0, (1,)), (0, None), (0, 1, 2, 3, False)]:
            self.assertIs(is_point(D, value), False, value)
            if not any(isinstance(entry, bool) for entry in value):
                self.assertNotIn(value, list(points(D)))
        for value in odd_values() + [[0], "0", {0: 1}]:
            self.assertIs(is_point(D, value), False, value)
        self.assertIs(is_point(code=D, value=(3, 0, 1, 2, 3, 4)), True)

    def test_no_point(self):
        for value in [(1,), (0, 2), (0, True), [0], (0, 1, 2, 3, 4, 0)] + odd_values():
            for ask in (points_after, points_before):
                with self.assertRaises(NoPoint) as caught:
                    ask(D, value)
                self.assertIs(caught.exception.point, value)
        self.assertEqual(points_after(code=D, point=(0,)), ((0, 1),))
        self.assertEqual(points_before(code=D, point=(0, 1)), ((0,),))
        self.assertEqual(points_after(D, (0, 1, 2, 3, 4)), ())

    def test_exactly_eight_hundred_points(self):
        code = jumping(GOALS_800)
        found = list(points(code))
        self.assertEqual((len(found), len(set(found))), (800, 800))
        self.assertEqual(sorted(found, key=lambda point: (len(point), point)), found)

    def test_points_are_counted_without_looking_at_them(self):
        for code in [A, D, L, LOST, SPLIT, jumping(GOALS_800)] + oracle.random_codes(6, 100):
            self.assertEqual(count_points(code), len(list(points(code))))
        self.assertEqual(count_points(jumping(GOALS_801)), 801)

    def test_more_than_eight_hundred_points(self):
        wide = code_of("\n".join(["a = six ; go 0 c"] + [f"go {row * 7 % 41} c" for row in range(1, 40)]))
        for code in (jumping(GOALS_801), wide):
            for asked in (points(code), points(code=code)):
                with self.assertRaises(TooMany) as caught:
                    next(asked)
                self.assertEqual(caught.exception.most, 800)
            # No other function of the module raises it.
            first = code.next_rows(0)
            self.assertIs(is_point(code, (0, first[1])), True)
            self.assertEqual(points_after(code, (0,)), tuple((0, row) for row in first))
            self.assertEqual(points_before(code, (0, first[0])), ((0,),))
            self.assertEqual(list(ways(code, 2)), [(0, row) for row in first])
            self.assertEqual(way_to(code, 0), (0,))
            self.assertIs(is_way(code, (0, first[1])), True)
            for way in oracle.ways_of(code, 7)[::9]:
                for point in oracle.points_of_way(code, way):
                    self.assertIs(is_point(code, point), True)


class KeptTest(unittest.TestCase):

    def test_what_is_passed_stays_as_it_was(self):
        code = Code.of(M, list(D.rows))
        entries = [0, 1]
        is_way(code, entries)
        is_point(code, entries)
        list(points(code))
        list(ways(code, 6))
        self.assertEqual((code, entries, str(code)), (D, [0, 1], str(D)))


if __name__ == "__main__":
    unittest.main()
