import random
import unittest

from latelands.errors import InvalidBreaks, InvalidWay, NoName, NoStep
from latelands.values import first_change, handed, value
from tests import oracle
from tests.helpers import A, D, GOALS_801, L, clashing, code_of, jumping, odd_values

W = (0, 1, 2, 3)
R = ("start", "r")


def plays(seed, many):
    """Codes, also with a clash, with ways of them: without breaks, with some and with all moments."""
    chance = random.Random(seed)
    tied = [oracle.random_tied(chance) for _ in range(many)]
    for code in [A, D, L] + oracle.random_codes(seed, many) + tied:
        for rows in range(9):
            known = oracle.ways_of(code, rows)
            for way in chance.sample(known, min(2, len(known))):
                moments = oracle.moments(code, way)
                for some in {(), tuple(moments), tuple(sorted(chance.sample(moments, len(moments) // 2)))}:
                    yield code, way, some


class ValuesTest(unittest.TestCase):

    def test_the_examples(self):
        shown = [handed(A, W)[3], handed(A, W, (1, 3))[3], first_change(A, W, (1, 3)), first_change(A, W, (3,)),
                 first_change(A, W, (1,))]
        self.assertEqual(shown, [((R,),), ((("made", 2, 0),),), (3, 0, 0), None, None])

    def test_what_the_codes_of_the_document_hand(self):
        # [20]: step 3 sends the entry of r, also with a break ahead of 1, 2 or 3, but not with both of two.
        for breaks, sent in [((), R), ((1,), R), ((2,), R), ((3,), R), ((1, 2), R), ((1, 3), ("made", 2, 0)),
                             ((2, 3), ("made", 2, 0)), ((1, 2, 3), ("made", 2, 0))]:
            self.assertEqual(handed(A, W, breaks), (((R,),), (), ((),), ((sent,),)))
        # [21]: each turn sends the result of the turn before; a break ahead of row 1 lands its own one too early.
        self.assertEqual([hands[0] for hands in handed(D, W * 3)[1::4]], [(R,), (("made", 0, 0),), (("made", 4, 0),)])
        self.assertEqual(handed(D, W * 2)[2], ((("start", "c"),),))
        self.assertEqual(first_change(D, W, (1,)), (1, 0, 0))
        self.assertEqual(first_change(D, W * 3, (4, 6, 8, 9)), (9, 0, 0))
        self.assertIs(first_change(D, W * 3, (2, 4, 6, 8, 10)), None)

    def test_many_codes(self):
        changes = 0
        for code, way, breaks in plays(21, 60):
            play = oracle.Play(code, way, breaks)
            for some in (breaks, list(breaks)):
                self.assertEqual(handed(code=code, way=way, breaks=some), play.handed)
                change = first_change(code=code, way=way, breaks=some)
                self.assertEqual(change, oracle.first_change(code, way, breaks))
                changes += change is not None
            if breaks == ():
                self.assertEqual(handed(code, way), play.handed)
        self.assertGreater(changes, 300)

    def test_values_at_each_step(self):
        for code, way, breaks in plays(22, 30):
            for step in range(len(way) + 1):
                play = oracle.Play(code, way[:step], breaks)
                play.land(step, step in breaks)
                for name in code.registers:
                    for some in (breaks, list(breaks)):
                        self.assertEqual(value(code, way, step, name, some), play.held[name][0])
                    if breaks == ():
                        self.assertEqual(value(code=code, way=way, step=step, name=name), play.held[name][0])

    def test_a_copy_reads_what_lands_just_then(self):
        code = code_of("a = two / - / b = keep a / send b a")
        self.assertEqual(handed(code, W), (((),), (), ((("made", 0, 0),),), ((("made", 0, 0), ("made", 0, 0)),)))
        self.assertEqual(value(code, W, 2, "a"), ("made", 0, 0))
        self.assertEqual(value(code, W, 1, "a"), ("start", "a"))
        self.assertEqual(value(code, W, 1, "a", (1,)), ("made", 0, 0))
        # A row reads before it writes, and its own result is seen by none of its operations.
        code = code_of("a = keep b ; b = keep a ; send a b / send a b / -")
        self.assertEqual(handed(code, (0, 1)), (((("start", "b"),), (("start", "a"),), (("start", "a"), ("start", "b"))),
                                                ((("start", "b"), ("start", "a")),)))

    def test_two_operations_that_read_one_register(self):
        code = code_of("a = one / send a ; b = keep a ; go 2 a / send a b")
        made = ("made", 0, 0)
        self.assertEqual(handed(code, (0, 1, 2)), (((),), ((made,), (made,), (made,)), ((made, made),)))

    def test_rows_without_operations_and_operations_without_sources(self):
        code = code_of("- / go 2 / a = one ; b = two / -")
        self.assertEqual(handed(code, ()), ())
        self.assertEqual(handed(code, W), ((), ((),), ((), ()), ()))

    def test_registers_of_groups(self):
        code = code_of("alike c a / alike d b / send a b ; send c d ; send e e")
        self.assertEqual(handed(code, (0,)), (((("start", "a"), ("start", "b")), (("start", "a"), ("start", "b")),
                                               (("start", "e"), ("start", "e"))),))
        self.assertEqual(value(code, (), 0, "d"), ("start", "b"))

    def test_codes_with_a_clash(self):
        # Of equal pairs the write that was issued last is seen, by step, then by index.
        code = code_of("a = three / a = two / a = one / send a")
        self.assertEqual(value(code, W, 3, "a"), ("made", 2, 0))
        self.assertEqual(value(code, W, 3, "a", (2,)), ("made", 2, 0))
        self.assertEqual(value(code, W, 2, "a", (2,)), ("made", 1, 0))
        code = clashing(GOALS_801, 3)
        self.assertEqual(handed(code, (0,)), (((), (("start", "c"),)),))
        self.assertEqual(handed(jumping(GOALS_801), (0, 1))[1], ((("start", "c"),),))

    def test_first_changes(self):
        # In a copy, ahead of the give that reads what it copied.
        code = code_of("a = six / b = keep a / send b")
        self.assertEqual(first_change(code, (0, 1, 2), (1,)), (1, 0, 0))
        # In the second source of an operation, and in the second operation.
        code = code_of("a = six / send b b ; send b a ; send a a")
        self.assertEqual(first_change(code, (0, 1), (1,)), (1, 1, 1))
        code = code_of("a = six / send b / send b a / send a")
        self.assertEqual(first_change(code, W, (1,)), (2, 0, 1))
        self.assertEqual(first_change(code, W, (3,)), (3, 0, 0))
        # A break that brings the same value, none on the way, and no break.
        code = code_of("alike a b / a = far b / send a / send a")
        self.assertIs(first_change(code, (0, 1, 2), (1,)), None)
        self.assertIs(first_change(code, (), ()), None)
        self.assertIs(first_change(code, (0, 1, 2), []), None)

    def test_a_way_of_more_than_a_thousand_rows(self):
        way = W * 700
        hands = handed(D, way)
        self.assertEqual((len(hands), hands[1], hands[-3]), (2800, ((R,),), ((("made", 2792, 0),),)))
        self.assertEqual(value(D, way, 2800, "r"), ("made", 2792, 0))
        self.assertEqual(value(D, way, 2797, "r", (2797,)), ("made", 2796, 0))
        self.assertEqual(first_change(D, way, (2, 4, 2797)), (2797, 0, 0))
        moments = tuple(step for step in range(1, 2800) if step % 4 != 3)
        self.assertEqual(first_change(D, way, moments), (1, 0, 0))
        self.assertEqual(handed(D, way, moments)[-3], ((("made", 2796, 0),),))


class WrongTest(unittest.TestCase):

    def asked(self, code, way, breaks):
        yield lambda: value(code, way, 99, None, breaks)
        yield lambda: handed(code, way, breaks)
        yield lambda: first_change(code, way, breaks)

    def raised(self, error, field, right, asked):
        for ask in asked:
            with self.assertRaises(error) as caught:
                ask()
            self.assertEqual(getattr(caught.exception, field), right)

    def test_what_is_no_way(self):
        for way, index in [((1,), 0), ((0, 2), 1), ((0, True), 1), ((False,), 0), ((0, 1, 2, 3, 4), 4), ((0, 1, 2, 0), 3),
                           (W * 300 + (1,), 1200)]:
            # What is wrong with breaks, step and name is told behind that.
            for breaks in ((), (5000,), None):
                self.raised(InvalidWay, "index", index, self.asked(D, way, breaks))
        for way in odd_values():
            if way != ():
                index = 4 if way == tuple(range(2000)) else 0
                self.raised(InvalidWay, "index", index, self.asked(D, way, None))

    def test_what_are_no_breaks(self):
        for breaks, index in [((0,), 0), ((4,), 0), ((3,), 0), ((True,), 0), ((1, 1), 1), ((2, 1), 1), ((1, 2, 3), 2),
                              ((1, None), 1), ((1, 2, D), 2)]:
            self.raised(InvalidBreaks, "index", index, self.asked(D, W, breaks))
            self.raised(InvalidBreaks, "index", index, self.asked(D, W, list(breaks)))
        for breaks in odd_values():
            if breaks not in ((), []):
                self.raised(InvalidBreaks, "index", 0, self.asked(D, W, breaks))

    def test_what_is_no_step_then_what_is_no_name(self):
        for step in [5, -1, 99] + odd_values() + ["0", (0,)]:
            for name in ("r", "x", None):
                with self.assertRaises(NoStep) as caught:
                    value(A, W, step, name)
                self.assertIs(caught.exception.step, step)
        for name in ["x", "R", ("r",)] + odd_values():
            with self.assertRaises(NoName) as caught:
                value(A, W, 4, name)
            self.assertIs(caught.exception.name, name)
        self.assertEqual(value(A, (), 0, "s"), R)
        self.assertRaises(NoStep, value, A, (), 1, "s")

    def test_what_is_passed_stays_as_it_was(self):
        breaks = [1, 2]
        handed(D, W, breaks)
        value(D, W, 4, "r", breaks)
        first_change(D, W, breaks)
        self.assertEqual((breaks, str(D)), ([1, 2], "r = slow\nsend r\ngo 0 c\n-"))


if __name__ == "__main__":
    unittest.main()
