import unittest

from latelands.codes import Code
from latelands.errors import Clash, InvalidBreaks, InvalidWay, TooMany
from latelands.judge import bad_gaps, bad_pairs
from latelands.kinds import Give, Make
from latelands.landings import clash
from latelands.listing import chart, listing
from latelands.machines import Machine
from latelands.rows import read_row
from latelands.ways import points
from tests import oracle
from tests.helpers import A, D, GOALS_800, GOALS_801, L, M, ROUND, clashing, jumping, odd_values, tied, TWO, wide

WAY = (0, 1, 2, 3)


class ListingTest(unittest.TestCase):

    def test_held_bad_pair_and_open_gaps(self):
        self.assertEqual(listing(A), " 0 open  r = move s\n 1 pair  -\n 2 pair  r = calc\n 3 pair  send r")
        self.assertEqual(listing(code=D), " 0 open  r = slow\n 1 bad   send r\n 2 open  go 0 c\n 3 held  -")

    def test_a_bad_pair_of_one_gap(self):
        self.assertIn((0, 0), bad_pairs(L))
        self.assertEqual(listing(L).split("\n")[0], " 0 pair  send r ; r = keep s ; go 3 c")

    def test_a_bad_gap_is_told_as_bad(self):
        # The gap 0 of this code is bad, and others are in bad pairs.
        self.assertEqual([line[3:8] for line in listing(ROUND).split("\n")],
                         ["bad  " if gap in bad_gaps(ROUND) else
                          "pair " if any(gap in pair for pair in bad_pairs(ROUND)) else "open " for gap in range(len(ROUND))])

    def test_many_codes(self):
        words = []
        for code in [code for code in oracle.random_codes(281, 120) if clash(code) is None]:
            if len(list(points(code))) > 60:
                continue
            lines = listing(code).split("\n")
            self.assertEqual(len(lines), len(code))
            for gap, line in enumerate(lines):
                word = line[3:9].rstrip(" ")
                words.append(word)
                self.assertEqual(line[:3] + line[8:9], f" {gap}  ")
                self.assertEqual(read_row(code.machine, line[9:]), code[gap])
                self.assertEqual(word == "held", gap in oracle.held_gaps(code))
                self.assertEqual(word == "bad", gap in bad_gaps(code))
                self.assertEqual(word == "pair", any(gap in pair for pair in bad_pairs(code)))
        self.assertTrue({"held", "bad", "open"} <= set(words))

    def test_one_row(self):
        self.assertEqual(listing(Code.read(M, "-")), " 0 open  -")

    def test_forty_rows(self):
        code = tied(*[TWO] * 8, *["send r ; send s"] * 8)
        lines = listing(code).split("\n")
        self.assertEqual(len(lines), 40)
        self.assertEqual([line[:3] for line in lines], [f" {row} " if row < 10 else f"{row} " for row in range(40)])
        self.assertEqual(lines[39], "39 open  send r ; send s")
        self.assertEqual([line[9:] for line in listing(wide()).split("\n")], str(wide()).split("\n")[1:])

    def test_errors_in_their_order(self):
        for code in (jumping(GOALS_801), clashing(GOALS_801, 3)):
            with self.assertRaises(TooMany) as caught:
                listing(code)
            self.assertEqual(caught.exception.most, 800)
        code = clashing(GOALS_800, 4)
        with self.assertRaises(Clash) as caught:
            listing(code)
        self.assertEqual((caught.exception.way, caught.exception.name), clash(code))


class ChartTest(unittest.TestCase):

    def test_writes_on_their_way(self):
        self.assertEqual(chart(A, WAY), "r        1121\ns        ....")
        self.assertEqual(chart(A, (0, 1)), "r        11\ns        ..")
        self.assertEqual(chart(code=D, way=WAY * 2, breaks=()), "c        ........\nr        11111111")

    def test_writes_that_land_at_a_break(self):
        self.assertEqual(chart(A, WAY, (1,)), "r        ..1.\ns        ....")
        self.assertEqual(chart(A, WAY, (2,)), "r        1.1.\ns        ....")
        self.assertEqual(chart(A, WAY, [3]), "r        11..\ns        ....")
        self.assertEqual(chart(A, WAY, breaks=(1, 3)), "r        ....\ns        ....")

    def test_the_empty_way(self):
        self.assertEqual(chart(A, ()), "r        \ns        ")
        self.assertEqual(chart(Code.read(M, "-"), ()), "")
        self.assertEqual(chart(Code.read(M, "-"), (0,)), "")

    def test_names_of_all_lengths(self):
        code = Code.read(M, "abcdefgh = slow\nx = slow abcdefgh")
        self.assertEqual(chart(code, (0, 1)), "abcdefgh 11\nx        .1")

    def test_numbers_of_ten_and_more(self):
        machine = Machine(Make("four", 4), Make("five", 5), Make("six", 6), Give("send"))
        code = Code.of(machine, [tuple((name, "r", (), None) for name in ("four", "five", "six"))] * 6)
        # A code with a clash is charted, too.
        self.assertIsNotNone(clash(code))
        self.assertEqual(chart(code, tuple(range(6))), "r        369111212")
        self.assertEqual(chart(code, tuple(range(6)), (4,)), "r        369.36")

    def test_many_codes(self):
        for code in oracle.random_codes(282, 150):
            for way in oracle.ways_up_to(code, 7)[-8:]:
                moments = oracle.moments(code, way)
                for breaks in [(), tuple(moments), tuple(moments[::2]), tuple(moments[-1:])]:
                    landed = oracle.Play(code, way, breaks).landings()
                    lines = []
                    for name in code.registers:
                        counts = [len([1 for early, _, step, _, other in landed if other == name and step <= at
                                       and early > at + 1]) for at in range(len(way))]
                        lines.append(name.ljust(8) + " " + "".join(str(count) if count else "." for count in counts))
                    self.assertEqual(chart(code, way, breaks), "\n".join(lines))

    def test_ways_of_many_rows(self):
        lines = chart(D, WAY * 1000).split("\n")
        self.assertEqual([len(line) for line in lines], [4009, 4009])
        self.assertEqual(lines[1], "r        " + "1111" * 1000)

    def test_errors_in_their_order(self):
        for way, index in [((0, 2), 1), ([0], 0), (None, 0), ((0, 1, 2, 3, 4), 4), ((True,), 0), ("0", 0), ((0, False), 1)]:
            for breaks in ((), (9,), None):
                with self.assertRaises(InvalidWay) as caught:
                    chart(A, way, breaks)
                self.assertEqual(caught.exception.index, index)
        for breaks, index in [((0,), 0), ((4,), 0), ((1, 1), 1), ((2, 1), 1), ((1, True), 1), (None, 0), (3, 0), ([1, 9], 1), ({}, 0)]:
            with self.assertRaises(InvalidBreaks) as caught:
                chart(A, WAY, breaks)
            self.assertEqual(caught.exception.index, index)
        self.assertRaises(InvalidBreaks, chart, D, WAY, (3,))
        for value in odd_values():
            if value != () and not (isinstance(value, (list, dict)) and len(value) == 0):
                if not isinstance(value, tuple) or value[:1] != (0,):
                    self.assertRaises(InvalidWay, chart, A, value)
                if not (isinstance(value, tuple) and value[:1] == (1,)):
                    self.assertRaises(InvalidBreaks, chart, A, WAY, value)

    def test_codes_with_many_points(self):
        code = jumping(GOALS_801)
        self.assertEqual(chart(code, (0,)), "a        1\nc        .")

    def test_what_is_passed_stays_as_it_was(self):
        breaks = [1, 3]
        code = Code.of(A.machine, A.rows, alike=A.alike)
        self.assertEqual((chart(code, WAY, breaks), listing(code)), (chart(A, WAY, (1, 3)), listing(A)))
        self.assertEqual((breaks, code, str(code)), ([1, 3], A, str(A)))


if __name__ == "__main__":
    unittest.main()
