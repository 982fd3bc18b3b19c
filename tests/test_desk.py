import random
import unittest

from latelands.codes import Code
from latelands.desk import Desk
from latelands.errors import (Clash, Ended, HeldGap, InvalidCode, InvalidMachine, InvalidText, NoName, NoRow, NothingToUndo,
                              NoWay, TooMany, UnknownCommand)
from latelands.judge import bad_gaps, bad_pairs, judge
from latelands.landings import clash
from latelands.listing import listing
from latelands.machines import Machine
from latelands.mending import mended
from latelands.player import Player
from latelands.registers import fewest
from latelands.shut import least_shut
from latelands.waiting import longest_wait, shortest_wait
from tests import oracle
from tests.helpers import (A, D, GOALS_800, GOALS_801, L, ROUND, TWO, clashing, jumping, odd_values, tied, tied_loop,
                           wide)
from tests.test_registers import writing

MACHINE = ["late 1", "width 2", "kind make calc 2", "kind make slow 5", "kind copy move 5", "kind give send", "kind jump go"]
ASKING = ["code", "list", "bad", "judge", "shut", "wait", "wait least", "registers", "mend", "go", "go 1", "break", "undo",
          "value r", "way"]


def lines_of(code):
    """The lines that give a desk this code."""
    kinds = [f"kind {line}" for line in str(code.machine).split("\n")[2:]]
    groups = [line for line in str(code).split("\n")][:len(code.alike)]
    rows = [f"row {line}" for line in str(code).split("\n")[len(code.alike):]]
    return [f"late {code.machine.late}", f"width {code.machine.width}"] + kinds + rows + groups


def desk_with(*lines):
    desk = Desk()
    for line in lines:
        desk.say(line)
    return desk


def desk_of(code):
    return desk_with(*lines_of(code))


class DeskTest(unittest.TestCase):

    def refuse(self, desk, line, error, *fields):
        """That a line raises an error, and changes nothing."""
        before = {name: value for name, value in vars(desk).items()}
        told = str(before.get("player")), getattr(before.get("player"), "events", None)
        with self.assertRaises(error) as caught:
            desk.say(line)
        self.assertIs(type(caught.exception), error, line)
        self.assertEqual(tuple(vars(caught.exception).values()), fields, line)
        for name in ("late", "width", "kinds", "rows", "groups"):
            self.assertEqual(vars(desk)[name], before[name])
        if before["player"] is not None:
            self.assertIs(desk.player, before["player"])
            self.assertEqual((str(desk.player), desk.player.events), told)

    def test_the_examples(self):
        desk = Desk()
        lines = ["late 1", "width 2", "kind make calc 2", "kind copy move 5", "kind give send", "row r = move s", "row -",
                 "row r = calc", "row send r", "alike r s"]
        self.assertEqual(list(desk.say_all(*lines)), ["ok", "ok", "ok", "ok", "ok", "0", "1", "2", "3", "ok"])
        self.assertEqual([desk.say("bad"), desk.say("judge 1 3"), desk.say("shut"), desk.say("wait 0 1 2"), desk.say("registers")],
                         ["1-3 2-3", "changes 0,1,2,3 1,3 3 0 0", "3", "1", "3"])
        self.refuse(Desk(), "late  1", UnknownCommand, "late  1")
        self.assertEqual(desk.say(line="way"), "none")

    def test_the_worked_codes(self):
        for code in (A, D, L, ROUND):
            self.hold(desk_of(code), code)
        desk = desk_of(D)
        self.assertEqual([desk.say(line) for line in ("bad", "shut", "judge 1", "judge 0 2", "wait 0 2", "wait", "registers")],
                         ["1", "1", "changes 0,1 1 1 0 0", "open", "1", "ever", "never"])
        self.assertEqual(desk.say("mend"), "c = slow / send b / go 6 a / - / go 10 / - / b = slow / send c / go 0 a / -")
        self.assertEqual(desk.say("list"), " 0 open  r = slow\n 1 bad   send r\n 2 open  go 0 c\n 3 held  -")
        self.assertEqual(desk_of(A).say("mend"), "alike a b / b = move b / - / c = calc / send a")
        self.assertEqual(desk_of(A).say("code"), "alike r s / r = move s / - / r = calc / send r")

    def hold(self, desk, code):
        """The answers of all lines that ask something about a code."""
        self.assertEqual(desk.say("code"), str(code).replace("\n", " / "))
        self.assertEqual(desk.say("list"), listing(code))
        words = [str(gap) for gap in bad_gaps(code)] + [f"{low}-{high}" for low, high in bad_pairs(code)]
        self.assertEqual(desk.say("bad"), " ".join(words) or "none")
        for gaps in [(), code.gaps, code.gaps[:1], code.gaps[::-1] + code.gaps[:1], code.gaps[1::2]]:
            told = judge(code, *gaps)
            answer = "open"
            if told[0] == "changes":
                way, breaks = (",".join(str(number) for number in some) for some in told[1:3])
                answer = f"changes {way} {breaks} {told[3][0]} {told[3][1]} {told[3][2]}"
            self.assertEqual(desk.say(" ".join(["judge", *map(str, gaps)])), answer)
            count = longest_wait(code, gaps)[0]
            self.assertEqual(desk.say(" ".join(["wait", *map(str, gaps)])), "ever" if count is None else str(count))
        self.hold_sets(desk, code)

    def hold_sets(self, desk, code):
        """The answers to the lines that may raise TooMany."""
        calls = [("shut", lambda: " ".join(map(str, least_shut(code)[0])) or "none"),
                 ("wait least", lambda: "ever" if shortest_wait(code)[0] is None else str(shortest_wait(code)[0])),
                 ("registers", lambda: "never" if fewest(code)[0] == "never" else str(max(fewest(code)[1], default=-1) + 1)),
                 ("mend", lambda: "never" if mended(code)[0] == "never" else str(mended(code)[2]).replace("\n", " / "))]
        for line, call in calls:
            try:
                right = call()
            except TooMany as error:
                self.refuse(desk, line, TooMany, error.most)
            else:
                self.assertEqual(desk.say(line), right)

    def test_many_codes(self):
        held = 0
        for code in oracle.random_codes(291, 120):
            desk = desk_of(code)
            wrong = clash(code)
            if wrong is None:
                self.hold(desk, code)
                held += 1
            else:
                for line in ("list", "bad", "judge", "judge 99", "shut", "wait", "wait least", "registers", "mend"):
                    self.refuse(desk, line, Clash, *wrong)
                self.assertEqual(desk.say("code"), str(code).replace("\n", " / "))
                self.assertEqual([desk.say("way"), desk.say("break")], ["none", "ok"])
        self.assertGreater(held, 60)

    def test_lines_of_no_form(self):
        desk = desk_with(*MACHINE, "row send r")
        wrong = ["", " ", "  ", "late", "late ", "late  1", " late 1", "late 1 ", "late 1 1", "late -1", "late +1", "late 01", "late 00",
                 "late 1.0", "late x", "late 12345", "late 00000", "late 1\n", "Late 1", "late\n1", "width", "width 2 2", "width 02",
                 "kind", "kind make", "kind make a", "kind make a 1 1", "kind make a x", "kind make a 01", "kind make a -1",
                 "kind make a 12345", "kind make  1", "kind give", "kind give a 1", "kind give ", "kind give  a", "kind jump",
                 "kind jump a 1", "kind copy a", "kind move a 1", "kind a", "kind Make a 1", "kind make a 1 ", "row", "rows -",
                 "row\n-", " row -", "drop 1", "drop ", "alike", "alike r", "alike r ", "alike  r s", "alike r s ", "alike r  s",
                 "code 1", "code ", "list 0", "bad 1", "judge x", "judge 1 x", "judge 1 ", "judge 01", "judge -1", "judge 1,2",
                 "judge 12345", "judge least", "shut 1", "wait x", "wait least 1", "wait 1 least", "wait Least", "wait ",
                 "wait least ", "wait -1", "registers 1", "mend 1", "go x", "go 0 1", "go ", "go 01", "go 12345", "go -1", "break 1",
                 "break in", "undo 1", "undo ", "value", "value ", "value r s", "value  r", "way 1", "way\n", "help", "quit",
                 "row" * 100, "\n", "late 1\nlate 1"]
        for line in wrong:
            self.refuse(desk, line, UnknownCommand, line)
            self.refuse(Desk(), line, UnknownCommand, line)

    def test_values_that_are_no_strings(self):
        for value in odd_values() + [["late 1"], ("late", 1), b"way", 5]:
            for desk in (Desk(), desk_of(A)):
                with self.assertRaises(UnknownCommand) as caught:
                    desk.say(value)
                self.assertIs(caught.exception.line, value)

    def test_late_and_width(self):
        desk = Desk()
        for line in ("late 0", "late 2", "late 1", "width 1", "width 3", "width 2", "late 2", "late 2"):
            self.assertEqual(desk.say(line), "ok")
        for line, reason in [("late 3", "late"), ("late 9999", "late"), ("width 0", "width"), ("width 4", "width")]:
            self.refuse(desk, line, InvalidMachine, reason)
        desk.say("kind give send")
        self.refuse(desk, "row send a ; send b ; send c", InvalidText, 0, 5)
        desk.say("width 3")
        self.assertEqual(desk.say("row send a ; send b ; send c"), "0")

    def test_what_a_desk_begins_with(self):
        desk = desk_with("kind jump go", "kind give send")
        self.assertEqual(desk.say("row go 0 ; send a ; send b"), "0")
        self.assertEqual(desk.say("list"), " 0 open  go 0 ; send a ; send b")
        self.refuse(desk, "row send a ; send b ; send c ; send d", InvalidText, 0, 8)

    def test_kinds(self):
        desk = Desk()
        for line, reason in [("kind make alike 1", "name"), ("kind make A 1", "name"), ("kind give abcdefghi", "name"),
                             ("kind copy a 0", "delay"), ("kind copy a 7", "delay"), ("kind make A 0", "name"),
                             ("kind jump alike", "name"), ("kind give a\n", "name"), ("kind make a 9999", "delay"),
                             ("kind give =", "name")]:
            self.refuse(desk, line, InvalidMachine, reason)
        self.assertEqual(list(desk.say_all("kind make a 1", "kind copy b 6", "kind give c", "kind jump d")), ["ok"] * 4)
        for line, reason in [("kind give a", "name"), ("kind make a 1", "name"), ("kind copy c 3", "name"), ("kind make a 7", "delay")]:
            self.refuse(desk, line, InvalidMachine, reason)
        for name in "efghijkl":
            desk.say(f"kind give {name}")
        for line, reason in [("kind give m", "kinds"), ("kind give l", "name"), ("kind give M", "name"), ("kind make m 0", "delay"),
                             ("kind make l 0", "delay"), ("kind make m 6", "kinds")]:
            self.refuse(desk, line, InvalidMachine, reason)
        desk.say("row c x")
        for line, reason in [("kind give m", "kinds"), ("kind give l", "name")]:
            self.refuse(desk, line, InvalidMachine, reason)

    def test_no_other_machine_when_there_are_rows(self):
        desk = desk_with("kind give send", "row send r")
        for line in ("late 0", "late 1", "width 3", "kind give more", "kind make more 3"):
            self.refuse(desk, line, NoRow, 0)
        for line, reason in [("late 3", "late"), ("width 4", "width"), ("kind give send", "name"), ("kind make more 7", "delay"),
                             ("kind make Send 7", "name")]:
            self.refuse(desk, line, InvalidMachine, reason)
        desk.say("drop")
        self.assertEqual(list(desk.say_all("late 2", "width 1", "kind give more", "row more r")), ["ok", "ok", "ok", "0"])
        # Groups do not matter here.
        desk.say("drop")
        desk.say("alike r s")
        self.assertEqual(desk.say("late 0"), "ok")

    def test_lines_that_want_a_machine(self):
        desk = Desk()
        for line in ASKING + ["row -", "row ", "row x", "drop", "alike r s", "judge 5", "wait 7", "value 5"]:
            self.refuse(desk, line, InvalidMachine, "kinds")
        desk.say("late 2")
        self.refuse(desk, "way", InvalidMachine, "kinds")
        self.refuse(desk, "way 1", UnknownCommand, "way 1")
        self.refuse(desk, "row", UnknownCommand, "row")
        desk.say("kind give send")
        self.refuse(desk, "way", InvalidCode, "rows", None)

    def test_rows(self):
        desk = desk_with(*MACHINE)
        for at, line in enumerate(["row -", "row r = calc", "row send r s ; go 0", "row -"]):
            self.assertEqual(desk.say(line), str(at))
        self.assertEqual(desk.say("code"), "- / r = calc / send r s ; go 0 / -")
        for line, word in [("row ", 0), ("row  ", 0), ("row  -", 0), ("row - ", 1), ("row -  ", 1), ("row send", 1), ("row x", 0),
                           ("row r = calc ", 3), ("row r  = calc", 0), ("row send r ; send r ; send r", 5), ("row r = calc ;", 4),
                           ("row send r\n", 1), ("row go 41", 1), ("row alike r s", 0), ("row row -", 0)]:
            self.refuse(desk, line, InvalidText, 0, word)
        self.refuse(desk, "row", UnknownCommand, "row")
        # A row that does not fit the code is taken; only the code is refused.
        self.assertEqual(desk.say("row go 40"), "4")
        self.refuse(desk, "code", InvalidCode, "goal", 4)

    def test_forty_rows(self):
        desk = desk_with("kind give send")
        self.assertEqual(list(desk.say_all(*["row send r"] * 40)), [str(row) for row in range(40)])
        self.refuse(desk, "row send r", TooMany, 40)
        self.refuse(desk, "row send", InvalidText, 0, 1)
        self.assertEqual(desk.say("code").count(" / "), 39)
        self.assertEqual(list(desk.say_all("drop", "row send s")), ["ok", "39"])

    def test_drop(self):
        desk = desk_with(*MACHINE)
        self.refuse(desk, "drop", NothingToUndo, 1)
        desk.say("row send r")
        desk.say("row send s")
        self.assertEqual([desk.say("drop"), desk.say("code"), desk.say("drop")], ["ok", "send r", "ok"])
        self.refuse(desk, "drop", NothingToUndo, 1)
        self.refuse(desk, "code", InvalidCode, "rows", None)

    def test_alike(self):
        desk = desk_with(*MACHINE, "row send r s", "row send t")
        self.assertEqual(desk.say("alike s r"), "ok")
        self.assertEqual(desk.say("code"), "alike r s / send r s / send t")
        # Nothing is looked at but the number of the words.
        for line in ("alike r s", "alike = R", "alike t t", "alike x y z", "alike alike\n alike"):
            desk = desk_with(*MACHINE, "row send r s", "row send t", "alike r s")
            self.assertEqual(desk.say(line), "ok")
            self.refuse(desk, "code", InvalidCode, "alike", None)
        desk = desk_with(*MACHINE, "alike r s")
        self.refuse(desk, "code", InvalidCode, "rows", None)
        desk.say("row send r s")
        self.assertEqual(desk.say("code"), "alike r s / send r s")

    def test_codes_that_are_none_ahead_of_all_else(self):
        for line in ASKING + ["judge 77", "judge 3 99", "wait 99", "go 99", "value 5", "undo"]:
            for lines, fields in [([], ("rows", None)), (["row go 3"], ("goal", 0)), (["row go 0"], ("late", 0)),
                                  (["row send r", "alike r s"], ("alike", None)),
                                  (["row send a b ; send c d", "row send e f ; send g h", "row send i j"], ("registers", None))]:
                self.refuse(desk_with(*MACHINE, *lines), line, InvalidCode, *fields)
        # A late row can be added behind the jump.
        desk = desk_with(*MACHINE, "row go 0 c")
        self.refuse(desk, "way", InvalidCode, "late", 0)
        desk.say("row -")
        self.assertEqual(desk.say("way"), "none")

    def test_bad_and_judge(self):
        self.assertEqual(desk_with(*MACHINE, "row -").say("bad"), "none")
        self.assertEqual(desk_of(ROUND).say("bad").split(" ")[0], "0")
        desk = desk_of(D)
        self.assertEqual(desk.say("judge"), "open")
        for line, error, field in [("judge 4", NoRow, 4), ("judge 3", HeldGap, 3), ("judge 3 4", NoRow, 4), ("judge 9999", NoRow, 9999),
                                   ("judge 0 1 2 3", HeldGap, 3), ("wait 4", NoRow, 4), ("wait 3", HeldGap, 3), ("wait 3 9", NoRow, 9)]:
            self.refuse(desk, line, error, field)
        self.assertEqual(desk_of(L).say("judge 0"), "changes 0,1,2,0,3,4,0 3,6 6 0 0")

    def test_shut_and_wait(self):
        self.assertEqual(desk_with(*MACHINE, "row -").say("shut"), "none")
        self.assertEqual(desk_with(*MACHINE, "row -").say("wait"), "0")
        desk = desk_of(tied(TWO, TWO))
        self.assertEqual(desk.say("shut"), " ".join(map(str, least_shut(tied(TWO, TWO))[0])))
        self.assertEqual(len(desk.say("shut").split(" ")), 2)
        self.assertEqual([desk_of(A).say("wait least"), desk_of(A).say("wait 3 0"), desk_of(D).say("wait 0")], ["1", "2", "3"])
        loop = desk_with("kind jump go", "kind give send", "kind make late 2", "row r = late", "row send r", "row go 1")
        self.assertEqual([loop.say("wait"), loop.say("wait 2"), loop.say("wait least")], ["ever", "1", "1"])
        held = desk_with("late 2", "kind jump go", "row go 0", "row -", "row -")
        self.assertEqual(held.say("wait 0"), "2")
        ringed = desk_of(tied_loop(7))
        self.assertEqual(ringed.say("wait least"), "ever" if shortest_wait(tied_loop(7))[0] is None
                         else str(shortest_wait(tied_loop(7))[0]))
        self.refuse(desk_of(tied_loop(8)), "shut", TooMany, 16)
        self.refuse(desk_of(tied_loop(8)), "wait least", TooMany, 16)

    def test_registers_and_mend(self):
        self.assertEqual([desk_with(*MACHINE, "row -").say(line) for line in ("registers", "mend")], ["0", "-"])
        self.assertEqual([desk_of(D).say("registers"), desk_of(A).say("registers")], ["never", "3"])
        self.assertEqual(desk_of(wide_never()).say("mend"), "never")
        self.refuse(desk_of(writing(17)), "registers", TooMany, 16)
        self.refuse(desk_of(writing(17)), "mend", TooMany, 16)
        self.refuse(desk_of(wide()), "mend", TooMany, 40)

    def test_many_points_and_clashes(self):
        desk = desk_of(jumping(GOALS_801))
        for line in ("list", "bad", "judge", "judge 99", "shut", "wait", "wait 99", "wait least", "registers", "mend"):
            self.refuse(desk, line, TooMany, 800)
        self.assertEqual([desk.say("way"), desk.say("go 1"), desk.say("way")], ["none", "- start:c", "0"])
        code = clashing(GOALS_800, 4)
        self.refuse(desk_of(code), "judge 99", Clash, *clash(code))

    def test_the_player(self):
        desk = desk_of(A)
        told = [desk.say(line) for line in ("way", "go", "value r", "break", "value r", "go", "go", "break", "go", "way")]
        self.assertEqual(told, ["none", "start:r", "start:r", "ok", "start:r", "none", "-", "ok", "made:2:0", "0,1,2,3"])
        for line in ("go", "go 4", "go 0", "break"):
            self.refuse(desk, line, Ended)
        for line in ("value q", "value 5", "value R"):
            self.refuse(desk, line, NoName, line[6:])
        self.assertEqual([desk.say("undo"), desk.say("undo"), desk.say("go"), desk.say("way")], ["ok", "ok", "start:r", "0,1,2,3"])
        for _ in range(5):
            desk.say("undo")
        self.assertEqual(desk.say("way"), "none")
        self.refuse(desk, "undo", NothingToUndo, 1)
        # At the step 0 a break is no deed.
        self.assertEqual(desk.say("break"), "ok")
        self.refuse(desk, "undo", NothingToUndo, 1)

    def test_what_go_hands(self):
        desk = desk_with("kind make calc 1", "kind give send", "kind jump go", "kind copy move 1",
                         "row send a b ; b = calc ; c = calc a", "row send b ; a = move c ; go 0 a", "row -", "row go 3")
        told = [desk.say(line) for line in ("go", "go 0", "go", "go 2", "go", "go 3", "go")]
        self.assertEqual(told, ["start:a,start:b - start:a", "made:0:1 made:0:2 start:a", "made:0:2,made:0:1 - made:0:2",
                                "made:2:1 made:2:2 made:0:2", "none", "-", "-"])
        self.assertEqual(desk.say("way"), "0,1,0,1,2,3,3")
        desk = desk_of(D)
        desk.say("go")
        desk.say("go")
        desk.say("go")
        self.refuse(desk, "break", HeldGap, 3)
        self.refuse(desk, "go", NoWay, None)
        self.refuse(desk, "go 3", NoWay, 3)
        self.refuse(desk, "go 9999", NoWay, 9999)
        self.assertEqual([desk.say("go 4"), desk.say("way")], ["none", "0,1,2,3"])
        self.refuse(desk, "go", Ended)

    def test_the_most_of_the_player(self):
        desk = desk_with("kind jump go", "row go 0")
        for _ in range(200):
            self.assertEqual(desk.say("go"), "-")
        self.refuse(desk, "go", TooMany, 200)
        self.refuse(desk, "go 0", TooMany, 200)
        self.refuse(desk, "go 1", NoWay, 1)
        self.assertEqual(desk.say("way"), ",".join(["0"] * 200))
        desk.say("undo")
        self.assertEqual(desk.say("go"), "-")

    def test_lines_that_end_the_player_and_lines_that_do_not(self):
        for line in ("code", "list", "bad", "judge 1 3", "shut", "wait", "wait least", "registers", "mend", "value r", "way"):
            desk = desk_of(A)
            desk.say("go")
            desk.say(line)
            self.assertEqual(desk.say("way"), "0", line)
        for line in ("late 0", "width 2", "kind give more", "late 3", "row", "row x", "alike r", "judge 9", "value q", "nothing",
                     "go 3", None):
            desk = desk_of(A)
            desk.say("go")
            self.assertRaises((InvalidMachine, NoRow, UnknownCommand, InvalidText, NoName, NoWay), desk.say, line)
            self.assertEqual(desk.say("way"), "0", line)
        for lines in (["row -"], ["drop"], ["row -", "drop"], ["drop", "row send r"]):
            desk = desk_of(A)
            desk.say("go")
            for line in lines:
                desk.say(line)
            self.assertEqual(desk.say("way"), "none", lines)
            self.refuse(desk, "undo", NothingToUndo, 1)
        desk = desk_with(*MACHINE, "row send r s", "row send r")
        desk.say("go")
        desk.say("alike r s")
        self.assertEqual([desk.say("way"), desk.say("go")], ["none", "start:r,start:r"])
        # Forty rows are refused another one, and the player stands.
        desk = desk_with("kind give send", *["row send r"] * 40, "go")
        self.refuse(desk, "row send r", TooMany, 40)
        self.assertEqual(desk.say("way"), "0")

    def test_a_code_that_changes_while_it_is_judged(self):
        desk = desk_of(A)
        self.assertEqual(desk.say("bad"), "1-3 2-3")
        desk.say("drop")
        self.assertEqual([desk.say("bad"), desk.say("code")], ["none", "alike r s / r = move s / - / r = calc"])
        self.assertEqual([desk.say("row send s"), desk.say("bad"), desk.say("row send r"), desk.say("bad")],
                         ["3", "none", "4", "3 4"])

    def test_say_all_carries_a_line_out_when_its_answer_is_asked_for(self):
        desk = Desk()
        answers = desk.say_all("kind give send", "row send r", "go", "way", "nothing", "drop")
        self.assertRaises(InvalidMachine, desk.say, "way")
        self.assertEqual([next(answers), next(answers)], ["ok", "0"])
        self.assertEqual(desk.say("way"), "none")
        self.assertEqual([next(answers), desk.say("way"), next(answers)], ["start:r", "0", "0"])
        with self.assertRaises(UnknownCommand) as caught:
            next(answers)
        self.assertEqual(caught.exception.line, "nothing")
        self.assertEqual((list(answers), desk.say("code")), ([], "send r"))
        # The first error, too, comes when the first answer is asked for.
        answers = desk.say_all(5, "drop")
        self.assertEqual(list(desk.say_all()), [])
        self.assertRaises(UnknownCommand, next, answers)

    def test_several_generators_by_turns(self):
        desk = desk_with("kind give send")
        one, other = desk.say_all("row send r", "row send s", "code"), desk.say_all("row send t", "drop", "code")
        self.assertEqual([next(one), next(other), next(one), next(other), next(one), next(other)],
                         ["0", "1", "2", "ok", "send r / send t", "send r / send t"])

    def test_two_desks_led_by_turns(self):
        one, other = Desk(), Desk()
        for line, other_line in zip(lines_of(A), lines_of(D)):
            one.say(line)
            other.say(other_line)
        for line in lines_of(A)[len(lines_of(D)):]:
            one.say(line)
        self.assertEqual([one.say("go"), other.say("go"), one.say("way"), other.say("way")], ["start:r", "-", "0", "0"])
        other.say("drop")
        self.assertEqual([one.say("way"), one.say("code")], ["0", str(A).replace("\n", " / ")])
        self.assertEqual(one.say("bad"), "1-3 2-3")

    def test_random_lines(self):
        chance = random.Random(292)
        words = ["kind make calc 2", "kind give send", "kind jump go", "kind copy move 5", "late 1", "late 0", "width 3", "row -",
                 "row r = calc", "row send r", "row r = move s", "row go 0 r", "row go 1", "row send s ; r = calc", "drop",
                 "alike r s", "alike s t", *ASKING, "judge 1", "judge 0 1", "wait 0", "go 0", "go 2", "row", "row ", "late 9"]
        errors = answers = 0
        for _ in range(60):
            desks = [Desk(), Desk()]
            model = Model()
            for line in [word for word in words[:4] if chance.random() < 0.9] + [chance.choice(words) for _ in range(60)]:
                right = told_or_raised(model.say, line)
                for desk in desks:
                    self.assertEqual(told_or_raised(desk.say, line), right, line)
                errors += isinstance(right, tuple)
                answers += isinstance(right, str)
        self.assertGreater(min(errors, answers), 1000)


def wide_never():
    """A code that is never mended: several turns send the entry of r."""
    return Code.read(Machine.read("late 0\nwidth 2\nmake slow 6\ngive send\njump go"), "r = slow ; send r\ngo 0 c")


def told_or_raised(call, line):
    try:
        return call(line)
    except (ValueError, KeyError, IndexError, LookupError, RuntimeError, OverflowError) as error:
        return type(error), tuple(vars(error).values())


class Model:
    """What the lines of the random test do, told plainly: the deeds of the player are done anew each time."""

    def __init__(self):
        self.kinds, self.rows, self.groups, self.late, self.width, self.deeds = [], [], [], 0, 3, []

    def say(self, line):
        word, *rest = line.split(" ")
        if line == "row":
            raise UnknownCommand(line)
        if word in ("late", "width", "kind"):
            return self.set(word, rest)
        if not self.kinds:
            raise InvalidMachine("kinds")
        machine = Machine.read("\n".join([f"late {self.late}", f"width {self.width}"] + self.kinds))
        if word in ("row", "drop", "alike"):
            return self.write(machine, word, line, rest)
        code = Code.of(machine, self.rows, alike=self.groups)
        if word in ("go", "break", "undo", "value", "way"):
            return self.play(code, word, rest)
        return self.ask(code, word, rest)

    def set(self, word, rest):
        if word == "kind":
            name = rest[1]
            if name in [kind.split(" ")[1] for kind in self.kinds]:
                raise InvalidMachine("name")
        elif not (int(rest[0]) <= 2 if word == "late" else 1 <= int(rest[0]) <= 3):
            raise InvalidMachine(word)
        if self.rows:
            raise NoRow(0)
        if word == "kind":
            self.kinds.append(" ".join(rest))
        elif word == "late":
            self.late = int(rest[0])
        else:
            self.width = int(rest[0])
        return "ok"

    def write(self, machine, word, line, rest):
        if word == "drop":
            if not self.rows:
                raise NothingToUndo(1)
            self.rows.pop()
        elif word == "alike":
            self.groups.append(rest)
        else:
            try:
                self.rows.append(Code.read(Machine(*machine.kinds, late=0), line[4:]).rows[0])
            except InvalidText as error:
                raise InvalidText(0, error.word)
            except InvalidCode:
                goal = line.split("go ")[1].split(" ")
                self.rows.append((("go", None, tuple(goal[1:]), int(goal[0])),))
        self.deeds = []
        return str(len(self.rows) - 1) if word == "row" else "ok"

    def play(self, code, word, rest):
        player = Player(code)
        for deed in self.deeds:
            player.go(deed[1]) if deed[0] == "go" else player.break_in()
        answer = "ok"
        if word == "go":
            handed = player.go(*map(int, rest))
            answer = " ".join(",".join(":".join(map(str, value)) for value in values) or "-" for values in handed) or "none"
        elif word == "break":
            player.break_in()
        elif word == "undo":
            player.undo()
        elif word == "value":
            answer = ":".join(map(str, player.sees(rest[0])))
        else:
            answer = ",".join(map(str, player.way)) or "none"
        self.deeds = list(player.events)
        return answer

    def ask(self, code, word, rest):
        if word == "code":
            return str(code).replace("\n", " / ")
        if word == "list":
            return listing(code)
        if word == "bad":
            return " ".join([str(gap) for gap in bad_gaps(code)] + [f"{low}-{high}" for low, high in bad_pairs(code)]) or "none"
        if word == "judge":
            told = judge(code, *map(int, rest))
            return " ".join([told[0]] + [",".join(map(str, some)) for some in told[1:3]] + [str(number) for number in told[3]]
                            if told[0] == "changes" else ["open"])
        if word == "shut":
            return " ".join(map(str, least_shut(code)[0])) or "none"
        if word == "wait":
            count = shortest_wait(code)[0] if rest == ["least"] else longest_wait(code, [int(gap) for gap in rest])[0]
            return "ever" if count is None else str(count)
        if word == "registers":
            told = fewest(code)
            return "never" if told[0] == "never" else str(max(told[1], default=-1) + 1)
        told = mended(code)
        return "never" if told[0] == "never" else str(told[2]).replace("\n", " / ")


if __name__ == "__main__":
    unittest.main()
