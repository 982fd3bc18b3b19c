import unittest

from latelands.codes import Code
from latelands.errors import InvalidLimit, TooMany
from latelands.landings import clash
from latelands.machines import Machine
from latelands.opening import opened
from latelands.sides import same
from latelands.ways import points
from tests import oracle
from tests.helpers import A, D, GOALS_800, GOALS_801, L, M, N, ROUND, clashing, jumping, odd_values, wide

PLAIN = Machine.read("late 0\nwidth 2\njump skip\nmake calc 1\ngive send\njump go")


def plain(text):
    return Code.read(PLAIN, text.replace(" / ", "\n"))


def lines(code):
    return str(code).split("\n")


def opened_plainly(code, times):
    """[19]: the rows, each with the row for which it stands, laid out one after another."""
    places = {}
    laid = []
    for copy in range(times):
        for row in range(len(code.rows)):
            places[copy, row] = len(laid)
            laid.append((copy, row))
        if copy < times - 1:
            laid.extend([None] * (1 + code.machine.late))
    rows, stands = [], []
    for at, place in enumerate(laid):
        if place is None:
            first = laid[at - 1] is not None
            jump = [kind.name for kind in code.machine.kinds if kind.family == "jump"][0]
            rows.append(((jump, None, (), len(laid)),) if first else ())
            stands.append(None)
            continue
        copy, row = place
        rows.append(tuple(operation[:3] + (goal_of(code, places, len(laid), times, copy, row, operation[3]),)
                          for operation in code.rows[row]))
        stands.append(row)
    return rows, tuple(stands)


def goal_of(code, places, end, times, copy, row, goal):
    if goal is None:
        return None
    if goal == len(code.rows):
        return end
    return places[copy if goal > row else (copy + 1) % times, goal]


class OpeningTest(unittest.TestCase):

    def test_the_examples(self):
        self.assertEqual([opened(A, 5)[1], opened(A, 5)[0] == A], [(0, 1, 2, 3), True])
        code, rows = opened(D, 2)
        self.assertEqual(rows, (0, 1, 2, 3, None, None, 0, 1, 2, 3))
        self.assertEqual(lines(code), ["r = slow", "send r", "go 6 c", "-", "go 10", "-", "r = slow", "send r", "go 0 c", "-"])
        self.assertEqual(opened(code=D, times=2), (code, rows))

    def test_one_time(self):
        for code in (A, D, L, ROUND, wide(), jumping(GOALS_801), clashing(GOALS_800, 4)):
            self.assertEqual(opened(code, 1), (code, tuple(range(len(code)))))

    def test_codes_without_a_jump(self):
        code = Code.of(M, [(("calc", "r", (), None),)] * 40)
        for times in range(1, 9):
            self.assertEqual(opened(code, times), (code, tuple(range(40))))
            self.assertEqual(opened(A, times), (A, (0, 1, 2, 3)))

    def test_a_jump_to_which_no_way_leads(self):
        code = plain("skip 3 / go 0 r / - / send r")
        self.assertNotIn(1, code.reached)
        self.assertEqual(lines(opened(code, 2)[0]), ["skip 3", "go 5 r", "-", "send r", "skip 9", "skip 8", "go 0 r", "-", "send r"])
        self.assertEqual(opened(code, 2)[1], (0, 1, 2, 3, None, 0, 1, 2, 3))

    def test_goals(self):
        code = plain("send r / go 0 r / go 2 r / go 5 r / go 6 r / -")
        made, rows = opened(code, 3)
        self.assertEqual(len(made), 20)
        self.assertEqual(lines(made), [
            "send r", "go 7 r", "go 9 r", "go 5 r", "go 20 r", "-", "skip 20",
            "send r", "go 14 r", "go 16 r", "go 12 r", "go 20 r", "-", "skip 20",
            "send r", "go 0 r", "go 2 r", "go 19 r", "go 20 r", "-"])
        self.assertEqual(rows, (0, 1, 2, 3, 4, 5, None, 0, 1, 2, 3, 4, 5, None, 0, 1, 2, 3, 4, 5))

    def test_a_row_that_jumps_to_itself(self):
        self.assertEqual(lines(opened(plain("go 0 r"), 2)[0]), ["go 2 r", "skip 3", "go 0 r"])
        self.assertEqual(lines(opened(plain("go 0 r ; send r"), 3)[0]),
                         ["go 2 r ; send r", "skip 5", "go 4 r ; send r", "skip 5", "go 0 r ; send r"])
        self.assertEqual(lines(opened(plain("go 1"), 2)[0]), ["go 3", "skip 3", "go 3"])

    def test_late_rows(self):
        for late in (0, 1, 2):
            machine = Machine.read(f"late {late}\nwidth 1\ngive send\njump go\njump skip")
            code = Code.of(machine, [(("skip", None, ("r",), 0),)] + [()] * late + [(("send", None, ("r",), None),)])
            made, rows = opened(code, 3)
            copy = len(code) + 1 + late
            self.assertEqual(len(made), 3 * len(code) + 2 + 2 * late)
            for at in range(2):
                # The first of the kinds that is a jump is taken, whichever the code uses.
                self.assertEqual(made[at * copy + len(code)], (("go", None, (), len(made)),))
                self.assertEqual([made[at * copy + len(code) + 1 + more] for more in range(late)], [()] * late)
            self.assertEqual(rows.count(None), 2 + 2 * late)
            self.assertEqual(made.held, tuple(sorted(made.held)))
            self.assertEqual(same(code, made, rows=rows)[0], "same")

    def test_groups(self):
        code = plain("send a / send b / go 0 a")
        code = Code.of(code.machine, code.rows, alike=[("a", "b")])
        self.assertEqual(opened(code, 2)[0].alike, (("a", "b"),))

    def test_many_codes(self):
        beside = 0
        for code in oracle.random_codes(261, 200):
            for times in (2, 3, 8):
                rows, stands = opened_plainly(code, times)
                if not any(oracle.jump_in(row) for row in code.rows):
                    self.assertEqual(opened(code, times), (code, tuple(range(len(code)))))
                elif len(rows) > 40:
                    self.assertRaises(TooMany, opened, code, times)
                else:
                    made, told = opened(code, times)
                    self.assertEqual((made.machine, made.rows, made.alike, told), (code.machine, tuple(rows), code.alike, stands))
                    if clash(code) is None and len(list(points(code))) < 60 and times < 4:
                        self.assertEqual(same(code, made, rows=told)[0], "same")
                        beside += 1
        self.assertGreater(beside, 100)

    def test_forty_rows_and_forty_one(self):
        totals = []
        for late in (0, 1, 2):
            machine = Machine.read(f"late {late}\nwidth 1\njump go")
            for size in range(1 + late, 41):
                code = Code.of(machine, [(("go", None, (), size),)] + [()] * (size - 1))
                for times in range(2, 9):
                    totals.append(times * size + (times - 1) * (1 + late))
                    if totals[-1] <= 40:
                        self.assertEqual(len(opened(code, times)[0]), totals[-1])
                    else:
                        with self.assertRaises(TooMany) as caught:
                            opened(code, times)
                        self.assertEqual(caught.exception.most, 40)
        self.assertTrue({39, 40, 41, 42} <= set(totals))

    def test_times(self):
        for code in (A, D, wide()):
            for value in odd_values() + [0, 9, -1, 1.0, "2", (2,), 10 ** 59]:
                if isinstance(value, int) and not isinstance(value, bool) and 1 <= value <= 8:
                    continue
                with self.assertRaises(InvalidLimit) as caught:
                    opened(code, value)
                self.assertIs(caught.exception.value, value)
        # A wrong number of times comes ahead of too many rows.
        self.assertRaises(InvalidLimit, opened, wide(), 9)
        self.assertRaises(TooMany, opened, wide(), 8)
        self.assertEqual(len(opened(plain("go 0 r"), 8)[0]), 15)

    def test_codes_with_a_clash_or_many_points(self):
        code = clashing(GOALS_800, 4)
        self.assertIsNotNone(clash(code))
        made, rows = opened(code, 2)
        self.assertEqual((len(made), made[0]), (35, code[0]))
        made, rows = opened(jumping(GOALS_801), 2)
        self.assertRaises(TooMany, list, points(made))

    def test_what_is_passed_stays_as_it_was(self):
        code = Code.of(D.machine, D.rows)
        self.assertEqual(opened(code, 3), opened(code, 3))
        self.assertEqual((code, str(code)), (D, str(D)))
        self.assertEqual(opened(Code.of(N, L.rows, alike=L.alike), 2), opened(L, 2))


if __name__ == "__main__":
    unittest.main()
