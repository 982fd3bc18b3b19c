import unittest

from latelands.codes import Code
from latelands.errors import Clash, InvalidWay, NoName, NoRow, NoStep, TooMany
from latelands.landings import clash
from latelands.machines import Machine
from latelands.ways import points
from latelands.webs import conflicts, seen, stretch, webs
from tests import oracle, oracle_webs
from tests.helpers import A, D, GOALS_800, GOALS_801, L, M, ROUND, clashing, jumping, odd_values, straight, wide


def read(text):
    return Code.read(M, text.replace(" / ", "\n"))


def codes(seed, many, most_points=80):
    found = [A, D, L, ROUND] + oracle.random_codes(seed, many)
    return [code for code in found if clash(code) is None and len(list(points(code))) <= most_points]


class SeenTest(unittest.TestCase):

    def test_the_examples(self):
        self.assertEqual([seen(A, 3, "r"), seen(A, 3, "s"), seen(A, 0, "s")], [((-1, 0),), (), ((-1, 1),)])
        self.assertEqual(seen(code=D, row=1, name="r"), ((-1, 1), (0, 0)))
        self.assertEqual(seen(D, 2, "c"), ((-1, 0),))

    def test_many_codes(self):
        several = 0
        for code in codes(231, 200):
            reads = oracle_webs.seen(code, oracle_webs.states(code))
            for row in range(len(code)):
                for name in code.registers:
                    self.assertEqual(seen(code, row, name), reads.get((row, name), ()))
            several += len([1 for writers in reads.values() if len(writers) > 2])
        self.assertGreater(several, 10)

    def test_reads_that_see_several_writes(self):
        code = straight("go 3 c / r = calc / go 4 / r = calc ; s = calc / - / - / send r")
        self.assertEqual(seen(code, 6, "r"), ((1, 0), (3, 0)))
        self.assertEqual(webs(code), (((-1, 0),), ((1, 0), (3, 0)), ((3, 1),)))
        code = straight("go 3 c / r = calc / - / - / send r")
        self.assertEqual(seen(code, 4, "r"), ((-1, 1), (1, 0)))

    def test_the_entry_that_comes_again_round_a_loop(self):
        code = read("send r / - / go 0 c / r = slow / -")
        # The write lands in the fourth row of the next turn; r is sent in the first one.
        self.assertEqual(seen(code, 0, "r"), ((-1, 1), (3, 0)))
        code = read("send r / - / go 0 c / -")
        self.assertEqual(seen(code, 0, "r"), ((-1, 1),))
        code = read("r = calc / go 0 c / - / send r")
        self.assertEqual(seen(code, 3, "r"), ((0, 0),))
        self.assertEqual(webs(code), (((-1, 0),), ((0, 0),)))

    def test_rows_to_which_no_way_leads(self):
        code = read("go 4 / - / r = calc / send r / send r")
        self.assertEqual(code.rows[3], (("send", None, ("r",), None),))
        self.assertEqual([seen(code, 3, "r"), seen(code, 4, "r")], [(), ((-1, 0),)])
        # The write there is no writer.
        self.assertEqual(webs(code), (((-1, 0),),))

    def test_errors_in_their_order(self):
        for row in odd_values() + [4, -1, True, 0.0]:
            if isinstance(row, int) and not isinstance(row, bool) and 0 <= row < 4:
                continue
            for name in ("r", "q", None):
                with self.assertRaises(NoRow) as caught:
                    seen(A, row, name)
                self.assertIs(caught.exception.row, row)
        for name in odd_values() + ["q", "R"]:
            with self.assertRaises(NoName) as caught:
                seen(A, 1, name)
            self.assertIs(caught.exception.name, name)
        for code in (jumping(GOALS_801), clashing(GOALS_801, 3)):
            self.assertRaises(TooMany, seen, code, -1, "q")
        code = clashing(GOALS_800, 4)
        with self.assertRaises(Clash) as caught:
            seen(code, -1, "q")
        self.assertEqual((caught.exception.way, caught.exception.name), clash(code))


class WebsTest(unittest.TestCase):

    def test_the_examples(self):
        self.assertEqual(webs(code=A), (((-1, 0),), ((-1, 1),), ((0, 0),), ((2, 0),)))
        self.assertEqual(webs(D), (((-1, 0),), ((-1, 1), (0, 0))))

    def test_many_codes(self):
        for code in codes(232, 200):
            found = webs(code)
            self.assertEqual(found, oracle_webs.webs(code, oracle_webs.states(code)))
            for web in found:
                # All writers of a web have one register.
                self.assertEqual(len({oracle_register(code, writer) for writer in web}), 1)

    def test_writes_that_nobody_reads(self):
        self.assertEqual(webs(read("r = calc ; s = slow / - / r = calc")), (((0, 0),), ((0, 1),), ((2, 0),)))

    def test_writes_that_are_read_together_in_a_chain(self):
        code = straight("go 3 c / r = calc / go 4 / r = calc / - / go 7 c / send r / go 9 c / r = calc / - / send r")
        self.assertEqual(seen(code, 6, "r"), ((1, 0), (3, 0)))
        self.assertEqual(seen(code, 10, "r"), ((1, 0), (3, 0), (8, 0)))
        self.assertEqual(webs(code), (((-1, 0),), ((1, 0), (3, 0), (8, 0))))
        # Two reads that see one write in common, and each one that the other does not see.
        code = straight("r = calc / go 5 c / r = calc / - / send r / go 8 c / r = calc / - / send r")
        self.assertEqual([seen(code, 4, "r"), seen(code, 8, "r")], [((2, 0),), ((0, 0), (2, 0), (6, 0))])
        code = straight("r = calc / go 5 c / - / r = hold a / go 7 / r = hold b / - / send r / go 11 c / go 14 c / - / "
                        "r = calc / - / - / send r")
        self.assertEqual([seen(code, 7, "r"), seen(code, 14, "r")], [((3, 0), (5, 0)), ((3, 0), (5, 0), (11, 0))])

    def test_codes_without_operations(self):
        for text in ("-", "- / - / -"):
            self.assertEqual([webs(read(text)), conflicts(read(text))], [(), ()])
        self.assertEqual(webs(Code.read(Machine.read("late 0\nwidth 1\njump go"), "go 0")), ())

    def test_errors_in_their_order(self):
        for call in (webs, conflicts):
            for code in (jumping(GOALS_801), clashing(GOALS_801, 3)):
                with self.assertRaises(TooMany) as caught:
                    call(code)
                self.assertEqual(caught.exception.most, 800)
            code = clashing(GOALS_800, 4)
            with self.assertRaises(Clash) as caught:
                call(code)
            self.assertEqual((caught.exception.way, caught.exception.name), clash(code))

    def test_forty_rows_and_nearly_eight_hundred_points(self):
        for code in (wide(), wide(13), jumping(GOALS_800)):
            found = webs(code)
            self.assertEqual(sorted(writer for web in found for writer in web if writer[0] >= 0),
                             [(row, write[0]) for row in range(len(code)) if row in code.reached for write in code.writes[row]])
            self.assertEqual(conflicts(code), tuple(sorted(conflicts(code))))

    def test_what_is_passed_stays_as_it_was(self):
        code = Code.of(A.machine, A.rows, alike=A.alike)
        self.assertEqual((webs(code), conflicts(code)), (webs(A), conflicts(A)))
        self.assertEqual((code, str(code)), (A, str(A)))


def oracle_register(code, writer):
    return code.registers[writer[1]] if writer[0] == -1 else code.rows[writer[0]][writer[1]][1]


class StretchTest(unittest.TestCase):

    def test_the_examples(self):
        way = (0, 1, 2, 3)
        self.assertEqual([stretch(A, way, 0, 0), stretch(A, way, 3, 0)], [(1, 5), None])
        self.assertEqual(stretch(code=A, way=way, step=2, index=0), (3, 4))

    def test_many_codes(self):
        for code in codes(233, 150):
            for way in oracle.ways_up_to(code, 6)[-12:]:
                right = {(first - 1, writer[1]): (first, last) for first, last, writer in oracle_webs.stretches(code, way)
                         if writer[0] != -1}
                for step in range(len(way)):
                    for index in range(4):
                        self.assertEqual(stretch(code, way, step, index), right.get((step, index)), (way, step, index))

    def test_writes_that_land_behind_the_end_of_the_way(self):
        code = straight("r = slow / send r")
        self.assertEqual([stretch(code, (0,), 0, 0), stretch(code, (0, 1), 0, 0)], [(1, 6), (1, 6)])

    def test_writes_that_are_read_later_than_they_land(self):
        code = straight("r = calc / - / - / send r / - / - / s = hold r / r = calc / send r / - / send r")
        way = tuple(range(11))
        for many, last in [(1, 2), (3, 2), (4, 3), (6, 3), (7, 6), (8, 6), (9, 8), (10, 8), (11, 8)]:
            self.assertEqual(stretch(code, way[:many], 0, 0), (1, last))
        self.assertEqual(stretch(code, way, 7, 0), (8, 10))
        self.assertEqual(stretch(code, way[:8], 7, 0), (8, 9))
        # A copy is read, not the write whose value it has.
        self.assertEqual(stretch(code, way, 6, 0), (7, 8))

    def test_writes_that_nobody_reads(self):
        code = straight("r = calc ; s = slow / - / - / - / send r / - / - / - / - / -")
        self.assertEqual(stretch(code, tuple(range(10)), 0, 1), (1, 6))
        self.assertEqual(stretch(code, tuple(range(10)), 0, 0), (1, 4))
        # Another write lands ahead of the read.
        code = straight("r = calc / r = calc / - / - / send r")
        self.assertEqual([stretch(code, (0, 1, 2, 3, 4), step, 0) for step in (0, 1)], [(1, 2), (2, 4)])

    def test_a_write_that_was_issued_ahead_but_lands_behind(self):
        code = straight("r = slow / r = calc / - / - / send r / - / send r / send r")
        way = tuple(range(8))
        self.assertEqual([stretch(code, way, step, 0) for step in (0, 1)], [(1, 7), (2, 4)])
        code = straight("r = slow / r = calc / - / send r / - / send r / send r")
        self.assertEqual([stretch(code, tuple(range(7)), step, 0) for step in (0, 1)], [(1, 6), (2, 5)])

    def test_the_same_row_at_several_steps(self):
        self.assertEqual([stretch(D, (0, 1, 2, 3) * 3, step, 0) for step in (0, 4, 8)], [(1, 5), (5, 9), (9, 13)])

    def test_ways_of_many_rows(self):
        way = (0, 1, 2, 3) * 1000
        self.assertEqual(stretch(D, way, 2000, 0), (2001, 2005))

    def test_errors_in_their_order(self):
        way = (0, 1, 2, 3)
        for value, index in [((0, 2), 1), ((1,), 0), ([0, 1], 0), (None, 0), ((0, 1, 2, 3, 4), 4), ((0, True), 1), (5, 0)]:
            for step in (0, 9, None):
                with self.assertRaises(InvalidWay) as caught:
                    stretch(A, value, step, None)
                self.assertEqual(caught.exception.index, index)
        for step in odd_values() + [4, -1, False, "0", 0.0]:
            for index in (0, None):
                with self.assertRaises(NoStep) as caught:
                    stretch(A, way, step, index)
                self.assertIs(caught.exception.step, step)
        self.assertRaises(NoStep, stretch, A, (), 0, 0)
        for index in odd_values() + [1, -1, False, "0", 0.0]:
            self.assertIsNone(stretch(A, way, 0, index))
            self.assertIsNone(stretch(A, way, 1, index))
        code = straight("send r ; r = calc ; s = calc")
        self.assertEqual([stretch(code, (0,), 0, index) for index in range(4)], [None, (1, 2), (1, 2), None])
        self.assertIsNone(stretch(code, (0,), 0, True))
        self.assertRaises(TooMany, stretch, jumping(GOALS_801), None, None, None)
        self.assertRaises(Clash, stretch, clashing(GOALS_800, 4), None, None, None)


class ConflictsTest(unittest.TestCase):

    def test_the_examples(self):
        self.assertEqual(conflicts(A), ((0, 1, (0,)), (0, 2, (0, 1)), (0, 3, (0, 1, 2, 3)), (2, 3, (0, 1, 2, 3))))
        self.assertEqual(conflicts(code=D), ((0, 1, (0,)), (1, 1, (0, 1))))

    def test_many_codes(self):
        own = 0
        for code in codes(234, 250):
            found = conflicts(code)
            self.assertEqual(found, oracle_webs.conflicts(code))
            own += len([1 for low, high, _ in found if low == high])
        self.assertGreater(own, 20)

    def test_stretches_that_have_a_common_step(self):
        met = entries = 0
        for code in codes(235, 150):
            found = webs(code)
            pairs = {each[:2] for each in conflicts(code)}
            some = set()
            for way in oracle.ways_up_to(code, 7):
                some |= oracle_webs.meetings(code, way, found)
            self.assertLessEqual(some, pairs)
            begin = [at for at, web in enumerate(found) if web[0][0] == -1]
            both = {(low, high) for low in begin for high in begin if low < high}
            self.assertLessEqual(both, pairs)
            met += len(some)
            entries += len(pairs - some - both)
        # On such short ways nearly all meet that meet anywhere.
        self.assertGreater(met, 40 * entries)

    def test_the_first_point_in_the_order_of_points(self):
        # A shorter point comes first, also where its entries are greater.
        code = straight("go 3 c / r = calc / s = calc / - / r = slow / s = slow / - / - / - / go 0 c")
        self.assertIn((0, 3, (0, 3, 4, 5)), conflicts(code))
        self.assertTrue(kept_together(code, (0, 1, 2, 3, 4, 5), 0, 3))
        for code in codes(236, 60):
            order = list(points(code))
            for low, high, point in conflicts(code):
                for earlier in order[:order.index(point)]:
                    self.assertFalse(kept_together(code, earlier, low, high))
                self.assertTrue(kept_together(code, point, low, high))

    def test_writes_on_their_way_at_the_end(self):
        self.assertEqual(conflicts(read("r = slow / s = calc")), ((0, 1, (0, 1, 2)),))
        self.assertEqual(conflicts(read("r = calc ; s = calc")), ((0, 1, (0, 1)),))
        # What lands just now is kept, what has landed and is not read again is not.
        self.assertEqual(conflicts(straight("r = calc / s = calc / -")), ((0, 1, (0, 1, 2)),))
        self.assertEqual(conflicts(straight("r = calc / - / s = calc")), ())
        self.assertEqual(conflicts(straight("r = calc / - / s = calc / send r")), ((0, 1, (1, 2, 3)),))

    def test_what_is_read_as_another_write_is_done(self):
        # The entry is read for the last time in the row that writes.
        self.assertEqual(conflicts(read("s = calc r")), ())
        self.assertEqual(conflicts(read("s = calc r / send r")), ((0, 1, (0, 1)),))


def kept_together(code, point, low, high):
    """Whether two names with these webs are kept at a point, played plainly."""
    known = oracle_webs.states(code)
    found = oracle_webs.webs(code, known)
    kept = [oracle_webs.web_of(found, (point[-1 - back], index))
            for back, index, _, landing in oracle.writes_at(code, point) if landing >= 0]
    for at, name in enumerate(code.registers):
        if oracle.heard(code, point, name) and not oracle.lands_at(code, point, name):
            kept.append(oracle_webs.web_of(found, min(known[point])[at]))
    return kept.count(low) > 1 if low == high else low in kept and high in kept


if __name__ == "__main__":
    unittest.main()
