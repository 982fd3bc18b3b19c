import itertools
import random
import unittest

from latelands.codes import Code
from latelands.errors import Clash, InvalidCode, InvalidMap, TooMany
from latelands.judge import bad_gaps, bad_pairs
from latelands.landings import clash
from latelands.machines import Machine
from latelands.numbering import fewest_numbers, needed_things, numbers_paper
from latelands.registers import fewest, rename
from latelands.sides import same
from latelands.values import handed
from latelands.webs import conflicts, webs
from latelands.ways import points
from tests import oracle, oracle_webs
from tests.helpers import A, D, GOALS_800, GOALS_801, L, M, ROUND, clashing, jumping, odd_values, straight, wide

NAMES = tuple("abcdefghijklmnopqrstuvwxyz")


def codes(seed, many, most_points=80):
    chance = random.Random(seed)
    found = oracle.random_codes(seed, many // 2) + [oracle.random_tied(chance) for _ in range(many // 2)]
    found = [A, D, L, ROUND] + [code for code in found if clash(code) is None]
    return [code for code in found if len(list(points(code))) <= most_points]


def pairs_of(code):
    return {(low, high) for low, high, _ in conflicts(code)}


def writing(many, more=""):
    """A code with so many webs: writes of rows far from one another, that nobody reads."""
    machine = Machine.read("late 0\nwidth 3\nmake calc 1\nmake slow 3\ngive send\njump go")
    rows = ["r = calc" if at < many else "-" for at in range(20)]
    return Code.read(machine, "\n".join(rows) + more.replace(" / ", "\n"))


class FewestTest(unittest.TestCase):

    def test_the_examples(self):
        word, places, paper = fewest(A)
        self.assertEqual((word, 1 + max(places)), ("fewest", 3))
        self.assertEqual(fewest(D), ("never", 1, (0, 1)))
        self.assertEqual(fewest(code=A), fewest(A))

    def test_many_codes(self):
        counts = []
        for code in codes(241, 300):
            if len(webs(code)) <= 16:
                counts.append(self.hold(code))
        self.assertGreater(counts.count(None), 20)
        self.assertGreater(len([many for many in counts if many is not None and many > 2]), 20)

    def hold(self, code):
        """What fewest tells of a code, all numberings tried. Returns the number of numbers, None for never."""
        pairs, many = pairs_of(code), len(webs(code))
        told = fewest(code)
        own = [(low, point) for low, high, point in conflicts(code) if low == high]
        if own:
            self.assertEqual(told, ("never",) + own[0])
            return None
        word, places, paper = told
        self.assertEqual((word, len(places)), ("fewest", many))
        used = max(places, default=-1) + 1
        self.assertIn(places, oracle_webs.growths(many, used) if many < 9 else [places])
        self.assertFalse([pair for pair in pairs if places[pair[0]] == places[pair[1]]])
        if many < 9:
            self.assertFalse([some for some in oracle_webs.growths(many, used - 1)
                              if not any(some[low] == some[high] for low, high in pairs)] if used else [])
        if many:
            self.assertTrue(oracle_webs.paper_holds(pairs, many, used - 1, paper))
            self.assertFalse(oracle_webs.paper_holds(pairs, many, used, paper))
        else:
            self.assertIsNone(paper)
        return used

    def test_no_webs(self):
        for text in ("-", "- / - / -"):
            self.assertEqual(fewest(straight(text)), ("fewest", (), None))
        self.assertEqual(fewest(Code.read(M, "go 2\n-\n-\nsend r").with_row(3, ())), ("fewest", (), None))

    def test_one_web(self):
        self.assertEqual(fewest(straight("send r")), ("fewest", (0,), ("web", 0, ())))
        self.assertEqual(fewest(straight("r = calc")), ("fewest", (0,), ("web", 0, ())))

    def test_the_least_web_that_conflicts_with_itself(self):
        code = Code.read(M, "a = calc ; s = slow\nsend r s\nb = slow\ngo 0 c\nr = slow")
        own = [each for each in conflicts(code) if each[0] == each[1]]
        self.assertGreater(len(own), 1)
        self.assertEqual(fewest(code), ("never", own[0][0], own[0][2]))
        self.assertNotEqual(own[0][2], min(point for _, _, point in own))

    def test_fifteen_sixteen_and_seventeen_webs(self):
        for many in (15, 16):
            self.assertEqual(len(webs(writing(many))), many)
            self.assertEqual(fewest(writing(many))[1], (0,) * many)
        for code in (writing(17), writing(16, " / send r s")):
            self.assertEqual(len(webs(code)), 17)
            with self.assertRaises(TooMany) as caught:
                fewest(code)
            self.assertEqual(caught.exception.most, 16)
        # Sixteen webs, all of which are on their way together with the one before.
        machine = Machine.read("late 0\nwidth 3\nmake calc 6\ngive send")
        code = Code.read(machine, "\n".join(["r = calc"] * 16))
        self.assertEqual(self.hold(code), 6)
        code = Code.read(machine, "\n".join(["a = calc ; b = calc ; c = calc"] * 5 + ["r = calc"]))
        self.assertEqual(self.hold(code), 16)

    def test_too_many_webs_ahead_of_never(self):
        code = Code.read(M, "r = slow\nsend r\n" + "s = calc ; t = calc\n" * 8 + "go 0 c\n-")
        self.assertEqual(len(webs(code)), 18)
        self.assertRaises(TooMany, fewest, code)

    def test_errors_in_their_order(self):
        for code in (jumping(GOALS_801), clashing(GOALS_801, 3)):
            with self.assertRaises(TooMany) as caught:
                fewest(code)
            self.assertEqual(caught.exception.most, 800)
        for code in (clashing(GOALS_800, 4), writing(17, " / r = slow / - / r = calc")):
            with self.assertRaises(Clash) as caught:
                fewest(code)
            self.assertEqual((caught.exception.way, caught.exception.name), clash(code))

    def test_forty_rows_and_nearly_eight_hundred_points(self):
        for code in (wide(), wide(13), jumping(GOALS_800)):
            if len(webs(code)) <= 16:
                self.hold(code)
        self.assertEqual(len(wide()), 40)

    def test_what_is_passed_stays_as_it_was(self):
        code = Code.of(A.machine, A.rows, alike=A.alike)
        self.assertEqual(fewest(code), fewest(code))
        self.assertEqual((code, str(code)), (A, str(A)))


class NumberingTest(unittest.TestCase):

    def apart(self, many, pairs):
        found = {thing: {} for thing in range(many)}
        for one, other in pairs:
            found[one][other] = found[other][one] = True
        return found

    def test_many_things(self):
        chance = random.Random(242)
        for _ in range(120):
            many = chance.randint(1, 7)
            pairs = [pair for pair in itertools.combinations(range(many), 2) if chance.random() < chance.choice([0.2, 0.5, 0.8])]
            apart = self.apart(many, pairs)
            numbers = fewest_numbers(apart)
            right = [some for some in oracle_webs.growths(many, many) if not any(some[one] == some[other] for one, other in pairs)]
            self.assertIn(numbers, right)
            self.assertEqual(max(numbers), min(max(some) for some in right))
            paper = numbers_paper(apart, needed_things(apart, max(numbers)), {}, max(numbers))
            self.assertTrue(oracle_webs.paper_holds(set(pairs), many, max(numbers), paper))

    def test_papers_stay_small(self):
        def size(paper):
            return 1 + sum(size(part) for part in paper[2])

        chance = random.Random(243)
        for at in range(150):
            pairs = [pair for pair in itertools.combinations(range(16), 2) if chance.random() < at / 150]
            apart = self.apart(16, pairs)
            most = max(fewest_numbers(apart))
            self.assertLess(size(numbers_paper(apart, needed_things(apart, most), {}, most)), 200)
        # A paper leaves out what needs fewer numbers anyway, also where much is apart from one thing.
        pairs = [(0, other) for other in range(1, 10)] + [(10, other) for other in range(11, 16)]
        apart = self.apart(16, pairs + [(11 + at, 11 + (at + 1) % 5) for at in range(5)])
        self.assertEqual(max(fewest_numbers(apart)), 3)
        self.assertEqual(sorted(needed_things(apart, 3)), list(range(10, 16)))
        self.assertLess(size(numbers_paper(apart, needed_things(apart, 3), {}, 3)), 12)
        # No three of these are apart from one another, but three numbers are not enough.
        ring = [(at, (at + 1) % 5) for at in range(5)]
        pairs = ring + [pair for one, other in ring for pair in ((one, other + 5), (other, one + 5))]
        pairs += [(at + 5, 10) for at in range(5)]
        apart = self.apart(16, pairs)
        self.assertEqual(max(fewest_numbers(apart)), 3)
        self.assertLess(size(numbers_paper(apart, needed_things(apart, 3), {}, 3)), 50)


class RenameTest(unittest.TestCase):

    def test_the_examples(self):
        made, rows, starts = rename(A, (0, 1, 1, 2), ("a", "b", "c"))
        self.assertEqual([str(made), rows, starts], ["alike a b\nb = move b\n-\nc = calc\nsend a", (0, 1, 2, 3),
                                                     {"a": "r", "b": "s"}])
        self.assertEqual(made.gaps, (0, 1, 2, 3))
        self.assertEqual([bad_gaps(made), bad_pairs(made)], [(), ()])
        self.assertEqual(rename(code=A, places=(0, 1, 1, 2), names=("a", "b", "c")), (made, rows, starts))

    def hold(self, code, places, names):
        """What rename tells: a code that is beside the code, clean, and that nothing changes."""
        made, rows, starts = rename(code, places, names)
        self.assertIs(type(made), Code)
        self.assertEqual(made.machine, code.machine)
        known = {row for point in oracle_webs.states(code) for row in point}
        self.assertEqual(rows, tuple(row if row in known else None for row in range(len(code))))
        self.assertEqual(list(starts), sorted(starts))
        self.assertEqual(same(code, made, rows=rows, starts=starts)[0], "same")
        self.assertEqual([bad_gaps(made), bad_pairs(made)], [(), ()])
        self.assertEqual(Code.read(made.machine, str(made)), made)
        for way in oracle.ways_up_to(code, 6)[-10:]:
            self.assertTrue(oracle_webs.is_clean(made, way))
            self.assertTrue(oracle_webs.sees_alike(code, made, starts, way))
            self.hold_handed(code, made, starts, way)
        return made

    def hold_handed(self, code, made, starts, way):
        """With any breaks at gaps a renamed code hands what the code hands without."""
        plain = handed(code, way)
        moments = oracle.moments(made, way)
        for many in range(min(3, len(moments)) + 1):
            for breaks in itertools.combinations(moments, many):
                told = handed(made, way, breaks)
                self.assertEqual(tuple(tuple(tuple(oracle_webs.entries_renamed(value, code, starts) for value in values)
                                             for values in row) for row in told), plain)

    def test_places_of_fewest(self):
        renamed = 0
        for code in codes(244, 200):
            if len(webs(code)) > 16 or fewest(code)[0] == "never":
                continue
            places = fewest(code)[1]
            many = max(places, default=-1) + 1
            if many <= 8:
                made = self.hold(code, places, NAMES[:many])
                renamed += 1
                # It needs no more registers then.
                again = fewest(made)[1] if len(webs(made)) <= 16 else ()
                self.assertLessEqual(max(again, default=-1) + 1, many)
        self.assertGreater(renamed, 80)

    def test_all_numberings_that_are_safe_and_none_that_is_not(self):
        refused = 0
        for code in codes(245, 160):
            many = len(webs(code))
            if not 1 <= many <= 5 or any(row not in code.reached for row in range(len(code))):
                continue
            pairs = pairs_of(code)
            reads = oracle_webs.seen(code, oracle_webs.states(code))
            for places in oracle_webs.growths(many, many):
                if any(places[low] == places[high] for low, high in pairs):
                    refused += 1
                    self.assertRaises(InvalidMap, rename, code, places, NAMES[:many])
                    self.assertFalse(self.seems_safe(code, reads, places), (str(code), places))
                else:
                    self.hold(code, places, NAMES[20:20 + max(places) + 1])
        self.assertGreater(refused, 50)

    def seems_safe(self, code, reads, places):
        """Whether nothing on ways of some rows shows that a renaming is not safe."""
        rows = oracle_webs.renamed(code, webs(code), reads, places, NAMES)
        entries = [(NAMES[places[at]], code.registers[web[0][1]]) for at, web in enumerate(webs(code)) if web[0][0] == -1]
        starts = dict(entries)
        if len(starts) < len(entries):
            return False
        try:
            made = Code.of(code.machine, rows)
        except InvalidCode:
            # Two writes of one row have one target and one delay.
            return False
        return all(oracle_webs.is_clean(made, way) and oracle_webs.sees_alike(code, made, starts, way)
                   for way in oracle.ways_up_to(code, 9))

    def test_all_places_unlike(self):
        for code in (A, straight("alike r s / r = move s / send r ; s = calc / - / send s r")):
            many = len(webs(code))
            self.hold(code, tuple(range(many)), NAMES[:many])

    def test_groups_and_starts(self):
        code = straight("alike q s / alike r t / send q r / send s t / q = calc / - / send q")
        places = fewest(code)[1]
        self.assertEqual(webs(code), (((-1, 0),), ((-1, 1),), ((-1, 2),), ((-1, 3),), ((2, 0),)))
        made, rows, starts = rename(code, (0, 1, 2, 3, 0), ("z", "m", "b", "a"))
        self.assertEqual((list(starts.items()), made.alike), ([("a", "t"), ("b", "s"), ("m", "r"), ("z", "q")], (("a", "m"), ("b", "z"))))
        self.assertEqual(len(places), 5)
        # An entry that nobody reads has no web, so its register is in no group.
        code = straight("alike q r s / send q / r = calc / - / send r s")
        made, rows, starts = rename(code, (0, 1, 0), ("x", "y"))
        self.assertEqual([str(made).split("\n")[0], starts], ["alike x y", {"x": "q", "y": "s"}])
        code = straight("alike q r / send q / r = calc / - / send r")
        made, rows, starts = rename(code, (0, 0), ("x",))
        self.assertEqual([made.alike, starts], [(), {"x": "q"}])

    def test_rows_to_which_no_way_leads(self):
        code = Code.read(M, "go 5 r\n-\ngo 6\n-\nsend r ; s = calc\nsend r\nr = calc")
        self.assertEqual([row in code.reached for row in range(7)], [True, True, True, True, False, True, True])
        made, rows, starts = rename(code, (0, 0), ("x",))
        self.assertEqual(str(made), "go 5 x\n-\ngo 6\n-\n-\nsend x\nx = calc")
        self.assertEqual([rows, starts], [(0, 1, 2, 3, None, 5, 6), {"x": "r"}])
        # A jump of such a row goes, too, and its late rows need no longer be held.
        code = Code.of(M, [(("go", None, (), 4),), (), (("go", None, ("r",), 0),), (), (("send", None, ("r",), None),)])
        made, rows, starts = rename(code, (0,), ("x",))
        self.assertEqual([str(made), rows, made.held], ["go 4\n-\n-\n-\nsend x", (0, 1, None, None, 4), (1,)])

    def test_codes_without_webs(self):
        code = straight("- / go 0")
        made, rows, starts = rename(code, (), ())
        self.assertEqual([made, rows, starts], [code, (0, 1), {}])

    def refuse(self, index, code, places, names):
        with self.assertRaises(InvalidMap) as caught:
            rename(code, places, names)
        self.assertEqual(caught.exception.index, index, places)

    def test_places_with_one_wrong_entry(self):
        names = NAMES[:4]
        for places, index in [((1, 0, 0, 2), 0), ((0, 2, 1, 1), 1), ((0, 0, 1, 2), 1), ((0, 1, 0, 2), 2), ((0, 1, 1, 0), 3),
                              ((0, 1, 1, 1), 3), ((0, 1, 1, 3), 3), ((0, 1, 1, -1), 3), ((0, -1, 1, 2), 1), ((0, 1, 2, 2), 3)]:
            self.refuse(index, A, places, names)
        for value in odd_values() + [9, 1.5, "1", (1,)]:
            if not (isinstance(value, int) and not isinstance(value, bool) and value in (0, 1)):
                self.refuse(1, A, (0, value, 1, 2), names)
                self.refuse(1, A, (0, value, 0, 0), names)
        self.refuse(0, A, (False, 1, 1, 2), names)
        self.refuse(1, A, (0, True, 1, 2), names)

    def test_places_that_are_too_few_too_many_or_no_tuple(self):
        names = NAMES[:4]
        for places, index in [((), 0), ((0,), 1), ((0, 1, 1), 3), ((0, 1, 1, 2, 0), 4), ((0, 1, 1, 2, None, None), 4),
                              ((0, 0, 1), 1), ((0, 1, 1, 9, 9), 3)]:
            self.refuse(index, A, places, names)
        for value in odd_values() + [[0, 1, 1, 2], "0112", {0: 0}, 3]:
            # The tuple of many integers begins as the numbers of all unlike places do.
            self.refuse(4 if isinstance(value, tuple) and len(value) == 2000 else 0, A, value, names)

    def test_names_too_few(self):
        self.refuse(3, A, (0, 1, 1, 2), ("a", "b"))
        self.refuse(1, A, (0, 1, 1, 2), ("a",))
        self.refuse(0, A, (0, 1, 1, 2), ())
        self.assertEqual(rename(straight("-"), (), ())[1], (0,))

    def test_webs_that_conflict_with_themselves(self):
        self.assertEqual(webs(D), (((-1, 0),), ((-1, 1), (0, 0))))
        for places, index in [((0, 1), 1), ((0, 0), 1), ((1, 1), 0), ((), 0), ((0,), 1), ((0, 1, 2), 1), ([0, 1], 0)]:
            self.refuse(index, D, places, ("a", "b"))

    def test_more_than_sixteen_webs(self):
        code = writing(17)
        self.hold(code, (0,) * 17, ("a",))
        self.hold(code, tuple(range(8)) + (7,) * 9, NAMES[:8])

    def test_nine_names(self):
        code = writing(9)
        self.hold(code, (0, 1, 2, 3, 4, 5, 6, 7, 7), NAMES[:8])
        with self.assertRaises(InvalidCode) as caught:
            rename(code, tuple(range(9)), NAMES[:9])
        self.assertEqual((caught.exception.reason, caught.exception.row), ("registers", None))
        self.refuse(8, code, tuple(range(8)) + (9,), NAMES[:10])
        self.refuse(8, code, tuple(range(9)), NAMES[:8])

    def test_errors_in_their_order(self):
        for code in (jumping(GOALS_801), clashing(GOALS_801, 3)):
            with self.assertRaises(TooMany) as caught:
                rename(code, None, ("a",))
            self.assertEqual(caught.exception.most, 800)
        code = clashing(GOALS_800, 4)
        with self.assertRaises(Clash) as caught:
            rename(code, None, NAMES[:9])
        self.assertEqual((caught.exception.way, caught.exception.name), clash(code))
        self.refuse(0, A, None, NAMES[:9])

    def test_what_is_passed_stays_and_what_is_returned_belongs_to_the_caller(self):
        code = Code.of(A.machine, A.rows, alike=A.alike)
        places, names = (0, 1, 1, 2), ("a", "b", "c")
        first = rename(code, places, names)
        first[2]["q"] = "z"
        self.assertEqual(rename(code, places, names)[2], {"a": "r", "b": "s"})
        self.assertEqual((code, str(code), places, names), (A, str(A), (0, 1, 1, 2), ("a", "b", "c")))


if __name__ == "__main__":
    unittest.main()
