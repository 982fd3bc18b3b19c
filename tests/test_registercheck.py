import random
import unittest

from latelands.codes import Code
from latelands.errors import Clash, TooMany
from latelands.kinds import Jump, Make
from latelands.landings import clash
from latelands.machines import Machine
from latelands.registercheck import shows_fewest
from latelands.registers import fewest
from latelands.webs import conflicts, webs
from latelands.ways import points
from tests import oracle, oracle_webs
from tests.helpers import A, D, GOALS_800, GOALS_801, L, ROUND, clashing, jumping, nested, odd_values, spoilt, straight, twisted
from tests.test_registers import writing


def codes(seed, many, most_points=80):
    chance = random.Random(seed)
    found = oracle.random_codes(seed, many // 2) + [oracle.random_tied(chance) for _ in range(many // 2)]
    found = [A, L, ROUND] + [code for code in found if clash(code) is None]
    return [code for code in found if len(list(points(code))) <= most_points and len(webs(code)) <= 16]


# A loop of seven writes that need four registers; a paper for three of them has a case with two parts.
BRANCHED = Code.read(
    Machine(Make("two", 2), Make("three", 3), Make("four", 4), Jump("go"), late=0, width=3),
    "p = four ; u = four\n-\ns = four\n-\ns = three\n-\nq = two ; t = two\nv = three ; go 0")


def pairs_of(code):
    return {(low, high) for low, high, _ in conflicts(code)}


def right_or_raised(ask):
    """What the oracle says, or False where it cannot read what it is given."""
    try:
        return bool(ask())
    except (TypeError, ValueError, KeyError, IndexError, AssertionError):
        return False


def holds(code, places, paper):
    """Whether places and a paper of their forms are right; other forms raise errors."""
    pairs, many = pairs_of(code), len(webs(code))
    if any(low == high for low, high in pairs) or not oracle_grown(places, many):
        return False
    if any(places[low] == places[high] for low, high in pairs):
        return False
    return oracle_webs.paper_holds(pairs, many, max(places), paper) if many else paper is None


def oracle_grown(places, many):
    return (type(places) is tuple and len(places) == many and all(type(place) is int for place in places)
            and all(0 <= place <= max(places[:at], default=-1) + 1 for at, place in enumerate(places)))


class ShowsFewestTest(unittest.TestCase):

    def test_the_examples(self):
        self.assertEqual([shows_fewest(A, (0, 1, 2, 3), None), shows_fewest(A, (0, 1, 1, 1), None),
                          shows_fewest(A, fewest(A)[1], fewest(A)[2])], [False, False, True])
        self.assertIs(shows_fewest(code=A, places=fewest(A)[1], paper=fewest(A)[2]), True)

    def test_all_that_fewest_tells(self):
        shown = 0
        for code in codes(251, 200):
            told = fewest(code)
            if told[0] == "fewest":
                self.assertIs(shows_fewest(code, told[1], told[2]), True)
                shown += len(told[1]) > 3
                if told[1]:
                    self.assertIs(shows_fewest(code, told[1], None), False)
            else:
                self.assertIs(shows_fewest(code, tuple(range(len(webs(code)))), ("web", 0, ())), False)
        self.assertGreater(shown, 30)

    def test_no_webs(self):
        code = straight("- / -")
        self.assertIs(shows_fewest(code, (), None), True)
        for places, paper in [((), ()), ((), ("web", 0, ())), ((0,), None), ([], None), (None, None), ((), False), ((), 0)]:
            self.assertIs(shows_fewest(code, places, paper), False)

    def test_one_web(self):
        code = straight("send r")
        self.assertIs(shows_fewest(code, (0,), ("web", 0, ())), True)
        for places, paper in [((), None), ((0,), None), ((1,), ("web", 0, ())), ((0, 0), ("web", 0, ())), ((False,), ("web", 0, ())),
                              ((0,), ("web", False, ())), ((0,), ("web", 1, ())), ((0,), ("web", -1, ())), ((0,), ("web", 0, [])),
                              ((0,), ["web", 0, ()]), ((0,), ("webs", 0, ())), ((0,), ("web", 0)), ((0,), ("web", 0, (), ())),
                              ((0,), ("web", 0, (("web", 0, ()),))), ((0,), ("web", 0, (None,)))]:
            self.assertIs(shows_fewest(code, places, paper), False, (places, paper))

    def test_places_that_are_not_right(self):
        paper = fewest(A)[2]
        self.assertEqual(fewest(A)[1], (0, 1, 1, 2))
        for places, right in [((0, 1, 1, 2), True), ((0, 1, 2, 1), True), ((1, 0, 0, 2), False), ((0, 1, 1, 1), False),
                              ((0, 0, 1, 2), False), ((0, 2, 2, 1), False), ((0, 1, 1, 3), False), ((0, 1, 1), False),
                              ((0, 1, 1, 2, 2), False), ([0, 1, 1, 2], False), ((0, True, 1, 2), False), ((False, 1, 1, 2), False)]:
            self.assertIs(shows_fewest(A, places, paper), right, places)
        # With a number more than needed no paper is right.
        for index in range(4):
            for some in [paper, (paper[0], index, ()), None]:
                self.assertIs(shows_fewest(A, (0, 1, 2, 3), some), False)

    def test_all_small_papers(self):
        chance = random.Random(252)
        shown = 0

        def some_paper(code, deep):
            index = chance.randint(0, len(webs(code)) - 1)
            return "web", index, tuple(some_paper(code, deep - 1) for _ in range(chance.choice([0, 1, 1, 2]) if deep else 0))

        for code in [each for each in codes(253, 120) if 1 <= len(webs(each)) <= 4]:
            if fewest(code)[0] == "never":
                continue
            for _ in range(60):
                paper = some_paper(code, chance.randint(0, 3))
                right = right_or_raised(lambda: holds(code, fewest(code)[1], paper))
                self.assertIs(shows_fewest(code, fewest(code)[1], paper), right, paper)
                shown += right
        self.assertGreater(shown, 100)

    def test_papers_that_are_spoilt(self):
        for code in [each for each in codes(254, 120) if len(webs(each)) > 2][:25]:
            if fewest(code)[0] == "never":
                continue
            _, places, paper = fewest(code)
            for some in twisted(paper):
                self.assertIs(shows_fewest(code, places, some), False, some)
            for some in spoilt(paper):
                right = right_or_raised(lambda: type(some) is tuple and holds(code, places, some))
                self.assertIs(shows_fewest(code, places, some), right, some)
            for some in list(twisted(places)) + list(spoilt(places)):
                right = right_or_raised(lambda: holds(code, some, paper))
                self.assertIs(shows_fewest(code, some, paper), right, some)

    def test_parts_left_out_twice_exchanged_or_of_another_web(self):
        told = fewest(BRANCHED)
        self.assertEqual((told[0], max(told[1])), ("fewest", 3))
        self.assertTrue(has_cases(told[2]))
        self.assertIs(shows_fewest(BRANCHED, told[1], told[2]), True)
        changed = 0
        for some in list(with_parts_changed(told[2])):
            right = right_or_raised(lambda: holds(BRANCHED, told[1], some))
            self.assertIs(shows_fewest(BRANCHED, told[1], some), right, some)
            changed += not right
        self.assertGreater(changed, 20)

    def test_a_web_that_conflicts_with_itself(self):
        for places in ((0, 1), (0, 0)):
            for paper in (None, ("web", 0, ()), ("web", 1, (("web", 0, ()),)), ("web", 0, (("web", 1, ()),))):
                self.assertIs(shows_fewest(D, places, paper), False)

    def test_more_than_sixteen_webs(self):
        code = writing(17)
        self.assertIs(shows_fewest(code, (0,) * 17, ("web", 3, ())), True)
        self.assertIs(shows_fewest(code, (0,) * 17, ("web", 17, ())), False)
        self.assertIs(shows_fewest(code, (0,) * 16, ("web", 3, ())), False)
        # So many webs that are all there at once.
        many = straight(" / ".join(["a = slow ; b = slow ; c = slow"] * 6))
        self.assertEqual(len(webs(many)), 18)
        self.assertEqual(len(conflicts(many)), 18 * 17 // 2)
        paper = ("web", 17, ())
        for web in range(16, -1, -1):
            paper = ("web", web, (paper,))
        self.assertIs(shows_fewest(many, tuple(range(18)), paper), True)
        self.assertIs(shows_fewest(many, tuple(range(17)) + (16,), paper), False)

    def test_papers_that_are_nested_deep(self):
        # Thirty-two rows of three writes, each three of which conflict with those around.
        machine_rows = " / ".join(["a = slow ; b = slow ; c = slow"] * 40)
        code = straight(machine_rows)
        self.assertEqual(len(webs(code)), 120)
        places = tuple(at % 18 for at in range(120))
        self.assertEqual(max(high - low for low, high, _ in conflicts(code)), 17)
        paper = ("web", 17, ())
        for web in range(16, -1, -1):
            paper = ("web", web, (paper,))
        self.assertIs(shows_fewest(code, places, paper), True)
        self.assertIs(shows_fewest(code, places[:-1] + (18,), paper), False)
        self.assertIs(shows_fewest(code, places, nested(paper, 150)), False)

    def test_values_that_are_no_papers(self):
        _, places, paper = fewest(A)
        for value in odd_values():
            self.assertIs(shows_fewest(A, places, value), False)
            self.assertIs(shows_fewest(A, value, paper), False)
            self.assertIs(shows_fewest(A, value, value), False)
            for at in range(3):
                self.assertIs(shows_fewest(A, places, paper[:at] + (value,) + paper[at + 1:]), False)
            self.assertIs(shows_fewest(A, places, paper[:2] + ((value,),)), False)
            self.assertIs(shows_fewest(A, places[:2] + (value,) + places[3:], paper), value in [1] and value is not True)
        self.assertIs(shows_fewest(A, places, ("web", 0, (paper,) * 50000)), False)
        self.assertIs(shows_fewest(A, (0,) * 100000, paper), False)

    def test_errors_in_their_order(self):
        for code in (jumping(GOALS_801), clashing(GOALS_801, 3)):
            with self.assertRaises(TooMany) as caught:
                shows_fewest(code, None, None)
            self.assertEqual(caught.exception.most, 800)
        code = clashing(GOALS_800, 4)
        with self.assertRaises(Clash) as caught:
            shows_fewest(code, None, None)
        self.assertEqual((caught.exception.way, caught.exception.name), clash(code))

    def test_what_is_passed_stays_as_it_was(self):
        value = [["web", {"r": [0]}], []]
        self.assertIs(shows_fewest(A, value, value), False)
        self.assertEqual(value, [["web", {"r": [0]}], []])


def has_cases(paper):
    return len(paper[2]) > 1 or any(has_cases(part) for part in paper[2])


def with_parts_changed(paper):
    """The paper with one part left out, twice, or in another order, or with another web somewhere."""
    word, web, papers = paper
    for other in range(-1, 8):
        yield word, other, papers
    yield word, web, papers[::-1]
    yield word, web, papers[1:]
    yield word, web, papers + papers[:1]
    yield word, web, papers[:1] + papers
    for at, part in enumerate(papers):
        for other in with_parts_changed(part):
            yield word, web, papers[:at] + (other,) + papers[at + 1:]


if __name__ == "__main__":
    unittest.main()
