import itertools
import random
import unittest

from latelands.codes import Code
from latelands.errors import Clash, InvalidLimit, TooMany
from latelands.judge import bad_gaps, bad_pairs, judge
from latelands.kinds import Give, Jump, Make
from latelands.landings import clash
from latelands.machines import Machine
from latelands.mending import mended
from latelands.opening import opened
from latelands.registercheck import shows_fewest
from latelands.registers import fewest
from latelands.sides import same
from latelands.values import handed
from latelands.ways import points
from latelands.webs import conflicts, webs
from tests import oracle
from tests.helpers import A, D, GOALS_800, GOALS_801, L, M, ROUND, clashing, jumping, odd_values, straight, wide
from tests.test_registers import writing


def read(text):
    return Code.read(M, text.replace(" / ", "\n"))


def codes(seed, many, most_points=60):
    chance = random.Random(seed)
    found = oracle.random_codes(seed, many // 2) + [oracle.random_tied(chance) for _ in range(many // 2)]
    found = [A, D, L, ROUND] + [code for code in found if clash(code) is None]
    return [code for code in found if len(list(points(code))) <= most_points]


def turning(turns):
    """A loop that sends what it made so many turns before, and what rows ahead of it made in the first turns."""
    machine = Machine(Make("slow", turns), Give("send"), Jump("go"), late=0, width=3)
    return Code.read(machine, "\n".join(["r = slow"] * turns + [f"r = slow ; send r ; go {turns} c"]))


# Several turns send the entry of r, so each web has it, however often this code is opened.
NEVER = Code.read(Machine(Make("slow", 6), Give("send"), Jump("go"), late=0, width=2), "r = slow ; send r\ngo 0 c")


class MendedTest(unittest.TestCase):

    def test_the_examples(self):
        word, times, made, rows, starts = mended(D)
        self.assertEqual((word, times, starts), ("mended", 2, {"a": "c", "b": "r"}))
        self.assertEqual(str(made).split("\n"), ["c = slow", "send b", "go 6 a", "-", "go 10", "-", "b = slow", "send c",
                                                 "go 0 a", "-"])
        self.assertEqual(rows, (0, 1, 2, 3, None, None, 0, 1, 2, 3))
        with self.assertRaises(InvalidLimit) as caught:
            mended(D, most=0)
        self.assertEqual(caught.exception.value, 0)
        self.assertEqual(mended(code=D, most=2), mended(D))

    def test_all_that_is_said_of_the_worked_examples(self):
        # [20]: three registers, and all gaps are open then.
        word, times, made, rows, starts = mended(A)
        self.assertEqual((word, times, len(made.registers), rows), ("mended", 1, 3, (0, 1, 2, 3)))
        self.assertEqual(judge(made, 0, 1, 2, 3)[0], "open")
        # [21]: opened twice, one web has the entry and the write of row 6, another one the write of row 0.
        wide_code = opened(D, 2)[0]
        self.assertEqual(len(wide_code), 10)
        self.assertEqual([str(wide_code).split("\n")[at] for at in (2, 4, 8)], ["go 6 c", "go 10", "go 0 c"])
        self.assertEqual(webs(wide_code), (((-1, 0),), ((-1, 1), (6, 0)), ((0, 0),)))
        self.assertEqual(webs(D)[1], ((-1, 1), (0, 0)))
        self.assertIn((1, 1, (0, 1)), conflicts(D))
        made = mended(D)[2]
        self.assertEqual(judge(made, *made.gaps)[0], "open")
        self.assertEqual(made.held, (3, 5, 9))

    def hold(self, code, told):
        """All that is promised of a mended code."""
        word, times, made, rows, starts = told
        for fewer in range(1, times):
            self.assertEqual(fewest_word(opened(code, fewer)[0]), "never")
        wide_code, stands = opened(code, times)
        self.assertEqual(rows, tuple(stand if at in wide_code.reached else None for at, stand in enumerate(stands)))
        places = fewest(wide_code)[1]
        many = max(places, default=-1) + 1
        self.assertEqual(made.registers, tuple("abcdefgh"[:many]))
        self.assertEqual([bad_gaps(made), bad_pairs(made)], [(), ()])
        self.assertEqual(same(code, made, rows=rows, starts=starts)[0], "same")
        self.assertEqual(Code.read(made.machine, str(made)), made)
        self.hold_handed(code, made, rows, starts)
        again = mended(made)
        self.assertEqual(again[:2], ("mended", 1))
        self.assertLessEqual(len(again[2].registers), many)
        self.assertIs(shows_fewest(wide_code, places, fewest(wide_code)[2]), True)

    def hold_handed(self, code, made, rows, starts):
        """With any breaks the mended code hands what the code hands without."""
        for way in oracle.ways_up_to(made, 6)[-6:]:
            image = tuple(rows[row] for row in way if rows[row] is not None)
            plain = handed(code, image)
            moments = oracle.moments(made, way)
            for many in range(len(moments) + 1):
                for breaks in itertools.combinations(moments, many):
                    told = [row for step, row in zip(way, handed(made, way, breaks)) if rows[step] is not None]
                    told = tuple(tuple(tuple(in_image(value, code, way, rows, starts) for value in values) for values in row)
                                 for row in told)
                    self.assertEqual(told, plain)

    def test_many_codes(self):
        found = []
        for code in codes(271, 260):
            try:
                told = mended(code)
            except TooMany as error:
                found.append(error.most)
                self.hold_too_many(code, error.most)
                continue
            found.append(told[1] if told[0] == "mended" else "never")
            if told[0] == "mended":
                self.hold(code, told)
            else:
                self.assertEqual(told, ("never", tuple(fewest_told(opened(code, times)[0])[1:] for times in range(1, 5))))
        self.assertTrue({1, 2} <= set(found), found)
        self.assertGreater(found.count(2), 5)

    def hold_too_many(self, code, most):
        """That the error is raised when it comes to it, and for the right thing."""
        for times in range(1, 5):
            size = times * len(code) + (times - 1) * (1 + code.machine.late)
            if size > 40:
                self.assertEqual(most, 40)
                return
            wide_code = opened(code, times)[0]
            if not few_points(wide_code):
                self.assertEqual(most, 800)
                return
            if not [low for low, high, _ in conflicts(wide_code) if low == high]:
                self.assertEqual(most, 16 if len(webs(wide_code)) > 16 else 8)
                return
        self.fail("It should have been mended.")

    def test_after_one_two_three_and_four_times(self):
        for turns in range(1, 6):
            code = turning(turns)
            told = mended(code, most=turns)
            self.assertEqual(told[:2], ("mended", turns))
            self.hold(code, told)
            self.assertEqual(mended(code, most=8), told)
            if turns > 1:
                self.assertEqual(mended(code, most=turns - 1)[0], "never")
        self.assertEqual(mended(turning(4))[:2], ("mended", 4))
        self.assertEqual(mended(turning(5))[0], "never")
        # Six copies have too many rows, and they are only looked at if it comes to them.
        self.assertEqual(len(mended(turning(6), most=5)[1]), 5)
        with self.assertRaises(TooMany) as caught:
            mended(turning(6), most=6)
        self.assertEqual(caught.exception.most, 40)

    def test_never_with_a_pair_for_each_number_of_times(self):
        self.assertEqual(len(mended(NEVER)[1]), 4)
        for most in range(1, 9):
            word, some = mended(NEVER, most=most)
            self.assertEqual((word, len(some)), ("never", most))
            self.assertEqual(some, tuple(fewest(opened(NEVER, times)[0])[1:] for times in range(1, most + 1)))
        self.assertGreater(len(set(some)), 4)
        self.assertEqual(mended(D, most=1), ("never", ((1, (0, 1)),)))

    def test_never_whatever_the_number_of_webs(self):
        code = read("r = slow / send r / " + " / ".join(["s = calc ; t = calc"] * 8) + " / u = slow / send u / go 0 c / -")
        self.assertGreater(len(webs(code)), 16)
        self.assertRaises(TooMany, fewest, code)
        loop = Code.read(M, "\n".join(["a = calc ; b = calc"] * 9 + ["r = slow", "send r", "go 9 c", "-"]))
        self.assertGreater(len(webs(loop)), 16)
        own = [each for each in conflicts(loop) if each[0] == each[1]]
        self.assertEqual(mended(loop, most=1), ("never", (own[0][::2],)))
        # Opened twice no web conflicts with itself, but there are too many.
        with self.assertRaises(TooMany) as caught:
            mended(loop, most=2)
        self.assertEqual(caught.exception.most, 16)

    def test_sixteen_and_seventeen_webs(self):
        self.assertEqual(mended(writing(16))[:2], ("mended", 1))
        with self.assertRaises(TooMany) as caught:
            mended(writing(17))
        self.assertEqual(caught.exception.most, 16)

    def test_eight_registers_and_nine(self):
        machine = Machine.read("late 0\nwidth 3\nmake calc 4\ngive send")
        eight = Code.read(machine, "a = calc ; b = calc ; c = calc\na = calc ; b = calc ; c = calc\na = calc ; b = calc")
        told = mended(eight)
        self.assertEqual(told[2].registers, tuple("abcdefgh"))
        self.hold(eight, told)
        nine = Code.read(machine, "\n".join(["a = calc ; b = calc ; c = calc"] * 3))
        self.assertEqual(max(fewest(nine)[1]), 8)
        with self.assertRaises(TooMany) as caught:
            mended(nine)
        self.assertEqual(caught.exception.most, 8)
        # Too many webs come ahead of too many registers.
        with self.assertRaises(TooMany) as caught:
            mended(Code.read(machine, "\n".join(["a = calc ; b = calc ; c = calc"] * 6)))
        self.assertEqual(caught.exception.most, 16)

    def test_rows_to_which_no_way_leads(self):
        code = read("go 4 / - / r = calc / send r / send r")
        word, times, made, rows, starts = mended(code)
        self.assertEqual([str(made), rows, starts], ["go 4\n-\n-\n-\nsend a", (0, 1, None, None, 4), {"a": "r"}])
        # Rows that stand behind a copy, and to which no way leads, are spare anyway.
        code = read("r = slow / send r / go 0 / -")
        word, times, made, rows, starts = mended(code)
        self.assertEqual((times, rows), (2, (0, 1, 2, 3, None, None, 0, 1, 2, 3)))
        self.assertEqual(made[4], ())

    def test_codes_without_operations(self):
        for text in ("-", "- / - / -"):
            self.assertEqual(mended(read(text)), ("mended", 1, read(text), tuple(range(len(read(text)))), {}))
        loop = Code.read(Machine.read("late 0\nwidth 1\njump go"), "-\ngo 0")
        self.assertEqual(mended(loop), ("mended", 1, loop, (0, 1), {}))

    def test_groups(self):
        code = straight("alike p q r / send p / send q / r = move p / - / send r q")
        made = mended(code)[2]
        self.assertEqual(len(made.alike), 1)
        self.hold(code, mended(code))

    def test_errors_in_their_order(self):
        for code in (jumping(GOALS_801), clashing(GOALS_801, 3)):
            with self.assertRaises(TooMany) as caught:
                mended(code, most=None)
            self.assertEqual(caught.exception.most, 800)
        code = clashing(GOALS_800, 4)
        with self.assertRaises(Clash) as caught:
            mended(code, most=9)
        self.assertEqual((caught.exception.way, caught.exception.name), clash(code))
        for value in odd_values() + [0, 9, -1, 1.0, "4"]:
            if not (isinstance(value, int) and not isinstance(value, bool) and 1 <= value <= 8):
                for code in (A, D, writing(17)):
                    with self.assertRaises(InvalidLimit) as caught:
                        mended(code, most=value)
                    self.assertIs(caught.exception.value, value)

    def test_too_many_rows_when_it_comes_to_them(self):
        code = read("r = slow / send r / go 0 c" + " / -" * 17)
        self.assertEqual(len(code), 20)
        self.assertEqual(mended(code, most=1)[0], "never")
        with self.assertRaises(TooMany) as caught:
            mended(code, most=2)
        self.assertEqual(caught.exception.most, 40)
        # Thirty-nine rows of a straight code are not opened.
        self.assertEqual(mended(Code.of(M, [(("send", None, ("r",), None),)] * 39), most=8)[:2], ("mended", 1))

    def test_too_many_points_of_an_opened_code(self):
        code = jumping(GOALS_800)
        self.assertEqual(fewest(code)[0], "never")
        self.assertEqual(mended(code, most=1)[0], "never")
        self.assertFalse(few_points(opened(code, 2)[0]))
        with self.assertRaises(TooMany) as caught:
            mended(code, most=2)
        self.assertEqual(caught.exception.most, 800)

    def test_forty_rows_and_nearly_eight_hundred_points(self):
        self.assertEqual(mended(wide(), most=1), ("never", (fewest(wide())[1:],)))
        with self.assertRaises(TooMany) as caught:
            mended(wide())
        self.assertEqual(caught.exception.most, 40)

    def test_what_is_passed_stays_and_what_is_returned_belongs_to_the_caller(self):
        code = Code.of(D.machine, D.rows)
        told = mended(code)
        told[4]["q"] = "z"
        self.assertEqual(mended(code)[4], {"a": "c", "b": "r"})
        self.assertEqual(list(mended(code)[4]), ["a", "b"])
        self.assertEqual((code, str(code)), (D, str(D)))


def fewest_word(code):
    return "never" if [low for low, high, _ in conflicts(code) if low == high] else "fewest"


def fewest_told(code):
    """As fewest tells of a code that has a web that conflicts with itself, whatever the number of webs."""
    own = [(low, point) for low, high, point in conflicts(code) if low == high]
    return ("never",) + own[0]


def few_points(code):
    try:
        return len(list(points(code))) <= 800
    except TooMany:
        return False


def in_image(value, code, way, rows, starts):
    """A value of the mended code as a value of the code."""
    if value[0] == "made":
        return ("made", len([row for row in way[:value[1]] if rows[row] is not None]), value[2])
    return oracle.entry(code, starts[value[1]])


if __name__ == "__main__":
    unittest.main()
