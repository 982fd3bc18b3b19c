import random
import unittest

from latelands.codes import Code
from latelands.errors import Ended, HeldGap, InvalidLimit, NoName, NothingToUndo, NoWay, TooMany
from latelands.landings import landings
from latelands.player import Player
from latelands.values import handed, value
from tests import oracle
from tests.helpers import A, A_TEXT, D, GOALS_801, L, M, clashing, code_of, jumping, odd_values

NAMES = ("code", "way", "step", "row", "ended", "breaks", "flying", "most", "events")
R = ("start", "r")
# A jump to its own row, or on.
ROUND = code_of("a = six ; go 0 c / send a / b = one")


def shown(player):
    """All that can be asked of a player."""
    return [getattr(player, name) for name in NAMES] + [player.sees(name) for name in player.code.registers] + [
        len(player), repr(player)]


def played(code, *deeds, most=200):
    """A player that has done these deeds: rows to go to, or None for a break."""
    player = Player(code, most=most)
    for deed in deeds:
        if deed is None:
            player.break_in()
        else:
            player.go(deed)
    return player


class PlayedTest(unittest.TestCase):

    def test_the_example(self):
        player = Player(Code.read(M, A_TEXT))
        self.assertEqual([player.go(), player.flying, player.break_in(), player.sees("r"), player.breaks, player.undo(),
                          player.flying, repr(player)],
                         [((R,),), ((5, 0, 0, "r"),), ((1, 5, 0, 0, "r"),), R, (1,), None, ((5, 0, 0, "r"),),
                          "Player(1 steps, 0 breaks)"])

    def test_a_new_player(self):
        player = Player(A)
        self.assertEqual(shown(player), [A, (), 0, 0, False, (), (), 200, (), R, R, 0, "Player(0 steps, 0 breaks)"])
        self.assertIs(player.code, A)
        self.assertEqual(Player(code=A, most=0).most, 0)
        self.assertEqual(Player(A, most=1000).most, 1000)
        for method in ("__init__", "set_most", "go", "break_in", "sees", "undo", "trial", "on_trial", "twin", "__eq__",
                       "__len__", "__repr__"):
            self.assertIn(method, vars(Player))

    def test_each_attribute_behind_each_deed(self):
        chance = random.Random(31)
        ended = 0
        for code in [A, D, L, ROUND, clashing(GOALS_801, 3)] + oracle.random_codes(31, 60) + [
                oracle.random_tied(chance) for _ in range(40)]:
            player = Player(code, most=12)
            breaks = ()
            for _ in range(30):
                self.hold(player, breaks)
                if player.ended or player.step == 12:
                    break
                if chance.random() < 0.4 and player.row not in code.held:
                    breaks = self.broken(player, breaks)
                else:
                    self.gone(player, chance.choice(code.next_rows(player.row)), breaks)
            ended += player.ended
        self.assertGreater(ended, 30)

    def hold(self, player, breaks):
        """Holds all that a player tells against the way that it did, with these breaks."""
        code, way, step = player.code, player.way, len(player.way)
        self.assertEqual((player.step, len(player), player.breaks), (step, step, breaks))
        self.assertIs(player.ended, player.row == len(code))
        if not player.ended:
            # With the row to come, a break ahead of it is one of the way.
            way = way + (player.row,)
            self.assertEqual(player.way, way[:-1])
            written = [write for write in landings(code, way, breaks) if write[2] < step]
            self.assertEqual(player.flying, tuple(sorted(write[1:] for write in written if write[0] > step)))
            for name in code.registers:
                self.assertEqual(player.sees(name), value(code, way, step, name, breaks))
        rows = [event[1] for event in player.events if event[0] == "go"]
        self.assertEqual((0,) + player.way, (0, 0) + tuple(rows[:-1]) if rows else (0,))
        self.assertEqual(([0] + rows)[-1], player.row)
        self.assertEqual(len(player.events), step + len(breaks))
        self.assertEqual(repr(player), f"Player({step} steps, {len(breaks)} breaks)")
        self.assertEqual(player.most, 12)

    def broken(self, player, breaks):
        step, events = player.step, player.events
        way = player.way + (player.row,)
        once = breaks + (step,) if step > 0 and step not in breaks else breaks
        before = landings(player.code, way, breaks)
        told = player.break_in()
        now = [write for write in landings(player.code, way, once) if write[2] < step]
        self.assertEqual(told, tuple(sorted(write for write in now if write not in before)))
        self.assertEqual(player.events, events + (("break",),) * (len(once) - len(breaks)))
        return once

    def gone(self, player, row, breaks):
        way, events = player.way + (player.row,), player.events
        told = player.go(row)
        self.assertEqual(told, handed(player.code, way, breaks)[-1])
        self.assertEqual((player.way, player.row, player.events), (way, row, events + (("go", row),)))

    def test_breaks(self):
        player = played(A, 1, 2, 3)
        self.assertEqual(player.flying, ((4, 2, 0, "r"), (5, 0, 0, "r")))
        # In the order of their landings: the copy lands last.
        self.assertEqual(player.break_in(), ((3, 4, 2, 0, "r"), (3, 5, 0, 0, "r")))
        self.assertEqual((player.sees("r"), player.flying, player.breaks), (R, (), (3,)))
        self.assertEqual(player.events, (("go", 1), ("go", 2), ("go", 3), ("break",)))
        self.assertEqual(player.go(), ((R,),))
        player = played(A, 1, None, 2, 3, None)
        self.assertEqual(player.go(), ((("made", 2, 0),),))
        self.assertEqual((player.way, player.breaks, player.ended, player.row), ((0, 1, 2, 3), (1, 3), True, 4))

    def test_breaks_by_which_nothing_happens(self):
        player = Player(A)
        self.assertEqual((player.break_in(), player.breaks, player.events), ((), (), ()))
        player = played(A, 1, None)
        before = shown(player)
        self.assertEqual(player.break_in(), ())
        self.assertEqual(shown(player), before)
        # With nothing on its way it is a break all the same.
        code = code_of("send a / send a / -")
        player = played(code, 1)
        self.assertEqual((player.break_in(), player.breaks, player.events), ((), (1,), (("go", 1), ("break",))))
        self.assertEqual((player.break_in(), player.breaks), ((), (1,)))
        self.assertEqual(repr(player), "Player(1 steps, 1 breaks)")

    def test_the_row_that_comes_next(self):
        player = Player(ROUND)
        for value_of_to in [2, -1, 3, True, False] + odd_values():
            for ask in (lambda: player.go(value_of_to), lambda: player.go(to=value_of_to)):
                with self.assertRaises(NoWay) as caught:
                    ask()
                self.assertIs(caught.exception.row, value_of_to)
        # It must be told if there are two.
        with self.assertRaises(NoWay) as caught:
            player.go()
        self.assertIs(caught.exception.row, None)
        self.assertEqual(shown(player)[1:5], [(), 0, 0, False])
        self.assertEqual(player.go(0), ((), (("start", "c"),)))
        self.assertEqual(player.go(to=1), ((), (("start", "c"),)))
        self.assertRaises(NoWay, player.go, 1)
        self.assertRaises(NoWay, player.go, 0)
        self.assertEqual((player.go(), player.go(None), player.way), (((("start", "a"),),), ((),), (0, 0, 1, 2)))
        self.assertEqual((player.row, player.ended), (3, True))

    def test_flying_at_the_end(self):
        player = played(code_of("a = six ; b = two / c = three"), 1, 2)
        self.assertEqual((player.ended, player.flying), (True, ((4, 1, 0, "c"), (6, 0, 0, "a"))))
        self.assertEqual((player.sees("b"), player.sees("a")), (("made", 0, 1), ("start", "a")))

    def test_the_most(self):
        player = played(D, 1, 2, most=2)
        before = shown(player)
        with self.assertRaises(TooMany) as caught:
            player.go()
        self.assertEqual(caught.exception.most, 2)
        self.assertEqual(shown(player), before)
        # What is no next row is told ahead of it.
        self.assertRaises(NoWay, player.go, 2)
        self.assertEqual(player.break_in(), ((2, 5, 0, 0, "r"),))
        player.most = 3
        player.go()
        self.assertRaises(NoWay, player.go)
        self.assertRaises(TooMany, player.go, 0)
        self.assertRaises(TooMany, Player(A, most=0).go)
        player = Player(D, most=1000)
        for step in range(1000):
            player.go((step + 1) % 4)
        self.assertRaises(TooMany, player.go, 1)
        self.assertEqual((len(player), player.row), (1000, 0))

    def test_the_end(self):
        player = played(A, 1, 2, 3, None, 4, most=4)
        before = shown(player)
        # It is told ahead of wrong rows and of the most.
        for ask in (player.go, lambda: player.go(7), lambda: player.go(True), player.break_in):
            self.assertRaises(Ended, ask)
            self.assertEqual(shown(player), before)
        self.assertEqual((player.row, player.ended, player.step), (4, True, 4))

    def test_held_gaps(self):
        player = played(D, 1, 2, 3)
        before = shown(player)
        with self.assertRaises(HeldGap) as caught:
            player.break_in()
        self.assertEqual(caught.exception.row, 3)
        self.assertEqual(shown(player), before)

    def test_sees(self):
        player = Player(A)
        for name in ["x", "R", ("r",)] + odd_values():
            with self.assertRaises(NoName) as caught:
                player.sees(name)
            self.assertIs(caught.exception.name, name)
        self.assertEqual(player.sees(name="s"), R)

    def test_limits(self):
        for most in [-1, 1001, 10 ** 30] + odd_values() + ["5", (5,)]:
            with self.assertRaises(InvalidLimit) as caught:
                Player(A, most=most)
            self.assertIs(caught.exception.value, most)
        with self.assertRaises(TypeError):
            Player(A, 5)

    def test_set_most(self):
        player = played(A, 1, 2)
        events = player.events
        self.assertIs(player.set_most(2), None)
        self.assertEqual((player.most, player.events), (2, events))
        self.assertIs(player.set_most(value=1000), None)
        player.most = 7
        before = shown(player)
        for most in [1, 0, -1, 1001] + odd_values() + ["5", (5,)]:
            with self.assertRaises(InvalidLimit) as caught:
                player.set_most(most)
            self.assertIs(caught.exception.value, most)
            with self.assertRaises(InvalidLimit) as caught:
                player.most = most
            self.assertIs(caught.exception.value, most)
            self.assertEqual(shown(player), before)
        # It is no deed, and undo leaves it.
        player.undo(2)
        self.assertEqual((player.most, player.step), (7, 0))
        player.most = 0
        self.assertRaises(TooMany, player.go)

    def test_a_code_with_too_many_points_is_played(self):
        self.assertEqual(played(jumping(GOALS_801), 1).way, (0,))


class UndoneTest(unittest.TestCase):

    def test_undo(self):
        chance = random.Random(32)
        for code in [A, D, L, ROUND] + oracle.random_codes(32, 20):
            player = Player(code)
            stood = [shown(player)]
            while not player.ended and player.step < 8:
                if chance.random() < 0.5 and player.row not in code.held and len(player.events) > 0:
                    player.break_in()
                else:
                    player.go(chance.choice(code.next_rows(player.row)))
                stood[len(player.events):] = [shown(player)]
            last = len(player.events)
            for count in range(1, last + 1):
                other = player.twin()
                self.assertIs(other.undo(count), None)
                self.assertEqual(shown(other), stood[last - count])
            for left in range(last - 1, -1, -1):
                player.undo()
                self.assertEqual(shown(player), stood[left])

    def test_what_cannot_be_undone(self):
        player = played(A, 1, None, 2)
        before = shown(player)
        for count in [0, -1, 4, 99] + odd_values() + ["1", (1,)]:
            for ask in (lambda: player.undo(count), lambda: player.undo(count=count)):
                with self.assertRaises(NothingToUndo) as caught:
                    ask()
                self.assertIs(caught.exception.count, count)
                self.assertEqual(shown(player), before)
        player.undo(3)
        self.assertEqual((player.events, player.row), ((), 0))
        with self.assertRaises(NothingToUndo) as caught:
            player.undo()
        self.assertEqual(caught.exception.count, 1)

    def test_deeds_behind_an_undo(self):
        player = played(A, 1, None, 2)
        player.undo(2)
        self.assertEqual((player.breaks, player.flying, player.row), ((), ((5, 0, 0, "r"),), 1))
        self.assertEqual(player.break_in(), ((1, 5, 0, 0, "r"),))
        player.undo()
        player.go()
        self.assertEqual(player.break_in(), ((2, 5, 0, 0, "r"),))
        # At the end it can go on again.
        player = played(A, 1, 2, 3, 4)
        player.undo()
        self.assertEqual((player.ended, player.go(4)), (False, ((R,),)))

    def test_trials(self):
        player = played(A, 1, None, 2)
        before = shown(player)
        with player.trial() as same:
            self.assertIs(same, player)
            player.go()
            player.break_in()
            self.assertEqual(player.step, 3)
        self.assertEqual(shown(player), before)
        self.assertEqual(player.go(), ((),))

    def test_trials_that_raise(self):
        player = played(A, 1, None, 2)
        before = shown(player)
        with self.assertRaises(NoWay) as caught:
            with player.trial():
                player.go()
                player.go(1)
        self.assertEqual(caught.exception.row, 1)
        self.assertEqual(shown(player), before)
        with self.assertRaises(ZeroDivisionError):
            with player.trial():
                player.undo(3)
                player.most = 1
                raise ZeroDivisionError
        self.assertEqual(shown(player), before)

    def test_deeds_ahead_of_a_trial_and_the_most(self):
        player = played(A, 1, None, 2)
        before = shown(player)
        with player.trial():
            player.undo(3)
            self.assertEqual(player.events, ())
            player.go()
            player.set_most(1)
            self.assertRaises(TooMany, player.go)
            player.break_in()
        self.assertEqual(shown(player), before)
        player.undo()
        self.assertEqual((player.breaks, player.row), ((1,), 1))
        player.undo()
        self.assertEqual((player.breaks, player.flying), ((), ((5, 0, 0, "r"),)))

    def test_nested_trials(self):
        player = Player(A)
        once = player.trial()
        with once:
            player.go()
            inside = shown(player)
            with player.trial():
                player.undo()
                player.most = 3
            self.assertEqual(shown(player), inside)
            # The same object again, within its own block.
            with once as same:
                self.assertIs(same, player)
                player.go()
            self.assertEqual(shown(player), inside)
        self.assertEqual(shown(player), shown(Player(A)))
        # It is kept when the block begins, not when it is asked for.
        player.go()
        with once:
            player.go()
        self.assertEqual(player.step, 1)

    def test_on_trial(self):
        player = played(A, 1)
        before = shown(player)
        told = player.on_trial(("break",), ("break",), ("go", 2), ("go", 3), ("break",), ("go", 4))
        self.assertEqual(told, ((), ((),), ((("made", 2, 0),),)))
        self.assertEqual(shown(player), before)
        self.assertEqual(player.on_trial(), ())
        self.assertEqual(Player(A).on_trial(("break",), ("go", 1)), (((R,),),))
        for deeds, error in [((("go", 2), ("go", 4)), NoWay), ((("go", 2), ("go", 3), ("go", 4), ("break",)), Ended),
                             ((("go", 2), ("go", 3), ("go", 4), ("go", 5)), Ended)]:
            self.assertRaises(error, player.on_trial, *deeds)
            self.assertEqual(shown(player), before)
        with self.assertRaises(HeldGap):
            Player(D).on_trial(("go", 1), ("go", 2), ("go", 3), ("break",))
        with self.assertRaises(TooMany):
            Player(A, most=1).on_trial(("go", 1), ("go", 2))
        done = played(D, 1, 2, None, 3, 0, None)
        self.assertEqual(Player(D).on_trial(*done.events), handed(D, (0, 1, 2, 3), (2,)))

    def test_twins(self):
        player = played(A, 1, None, most=9)
        other = player.twin()
        self.assertEqual(shown(other), shown(player))
        self.assertEqual(player, other)
        self.assertIsNot(player, other)
        before = shown(player)
        other.go()
        other.break_in()
        other.most = 50
        self.assertEqual(shown(player), before)
        self.assertNotEqual(player, other)
        player.undo(2)
        self.assertEqual((other.events, other.most), ((("go", 1), ("break",), ("go", 2), ("break",)), 50))
        other.undo(4)
        self.assertEqual((player, player.most), (other, 9))

    def test_equal(self):
        self.assertEqual(played(A, 1, 2), played(Code.read(M, A_TEXT), 1, 2, most=5))
        self.assertNotEqual(played(A, 1, 2), played(A, 1))
        self.assertNotEqual(played(A, 1, 2), played(A, 1, None, 2))
        self.assertNotEqual(Player(A), Player(Code.of(M, A.rows)))
        self.assertEqual(played(A, 1, None, None), played(A, None, 1, None))
        for other in odd_values() + [A, "Player(0 steps, 0 breaks)"]:
            self.assertIs(Player(A) == other, False)
            self.assertIs(Player(A) != other, True)


if __name__ == "__main__":
    unittest.main()
