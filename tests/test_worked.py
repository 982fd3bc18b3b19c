"""The examples of the interface, kept in examples.txt, and all that the worked examples say."""

import pathlib
import unittest

from latelands.alike import alike
from latelands.codes import Code
from latelands.judge import bad_gaps, bad_pairs, differences, heard, judge
from latelands.landings import landings
from latelands.machines import Machine
from latelands.mending import mended
from latelands.opening import opened
from latelands.registers import fewest, rename
from latelands.shut import least_shut
from latelands.values import handed
from latelands.waiting import longest_wait
from latelands.webs import conflicts, stretch, webs
from tests.helpers import A, D, M
from tests.test_language import INTERFACE

EXAMPLES = pathlib.Path(__file__).resolve().parent / "examples.txt"
WAY = (0, 1, 2, 3)


def session():
    """The names that the examples import."""
    names = {}
    for module, some in INTERFACE.items():
        for name in some:
            exec(f"from latelands.{module} import {name}", names)
    return names


def run(line, names):
    """What a line of an example gives, as the document writes it."""
    try:
        return repr(eval(line, names))
    except SyntaxError:
        exec(line, names)
        return None
    except (ValueError, KeyError, IndexError, RuntimeError, OverflowError) as error:
        fields = ", ".join(repr(value) for value in vars(error).values())
        return f"raises {type(error).__name__}({fields})"


class WorkedTest(unittest.TestCase):

    def test_the_examples_of_the_interface(self):
        names = session()
        # The machine and the codes of the worked examples are there from the start.
        names.update({"M": M, "A": A, "D": D})
        lines = EXAMPLES.read_text().split("\n")
        asked = 0
        for at, line in enumerate(lines):
            if line.startswith(">>> "):
                if line.startswith(">>> [webs(A)"):
                    # Here M, A and D are those of the worked examples again.
                    names.update({"M": M, "A": A, "D": D})
                told = run(line[4:], names)
                if told is not None:
                    self.assertEqual(told, lines[at + 1], line)
                    asked += 1
        self.assertEqual(asked, 36)

    def test_the_first_code(self):
        # Without breaks, and with one ahead of step 1, of step 2 or of step 3, step 3 sends the entry of r.
        for breaks in ((), (1,), (2,), (3,)):
            self.assertEqual(handed(A, WAY, breaks)[3], ((("start", "r"),),))
        self.assertEqual([each[:2] for each in landings(A, WAY)], [(4, 4), (5, 5)])
        # A break ahead of step 3 lands the result of calc and then the copy.
        self.assertEqual([(each[0], each[2]) for each in landings(A, WAY, (3,))], [(3, 2), (3, 0)])
        self.assertEqual(handed(A, WAY, (1, 3))[3], ((("made", 2, 0),),))
        self.assertEqual([(each[0], each[2]) for each in landings(A, WAY, (1, 3))], [(1, 0), (3, 2)])
        self.assertEqual([bad_gaps(A), bad_pairs(A)], [(), ((1, 3), (2, 3))])
        self.assertEqual([least_shut(A)[0], longest_wait(A, (0, 1, 2))[0]], [(3,), 1])

    def test_names_of_the_first_code(self):
        self.assertEqual(alike(A, (0, 1), ("by", 1, 0), ("in", "r"))[0], "alike")
        self.assertEqual(differences(A, (0, 1), (0,)), (("r", 1, 0),))
        self.assertEqual(heard(A, (0, 1), "r"), (1, 2, 3))

    def test_webs_of_the_first_code(self):
        self.assertEqual(webs(A), (((-1, 0),), ((-1, 1),), ((0, 0),), ((2, 0),)))
        self.assertEqual({(low, high) for low, high, _ in conflicts(A)}, {(0, 1), (0, 2), (0, 3), (2, 3)})
        self.assertEqual(conflicts(A)[0], (0, 1, (0,)))
        self.assertEqual(max(fewest(A)[1]) + 1, 3)
        made = rename(A, (0, 1, 1, 2), ("a", "b", "c"))[0]
        self.assertEqual(made, Code.read(M, "alike a b\nb = move b\n-\nc = calc\nsend a"))
        self.assertEqual(judge(made, *made.gaps)[0], "open")
        self.assertEqual(made.gaps, (0, 1, 2, 3))

    def test_the_second_code(self):
        # Each turn sends the result of the turn before.
        told = handed(D, WAY * 3)
        self.assertEqual([told[step] for step in (1, 5, 9)], [((("start", "r"),),), ((("made", 0, 0),),), ((("made", 4, 0),),)])
        self.assertEqual([bad_gaps(D), D.held, judge(D, 0, 2)[0]], [(1,), (3,), "open"])
        self.assertEqual(fewest(D)[:2], ("never", 1))
        self.assertEqual([stretch(D, WAY * 2, step, 0) for step in (0, 4)], [(1, 5), (5, 9)])

    def test_the_second_code_opened_twice(self):
        made = opened(D, 2)[0]
        self.assertEqual([len(made), str(made[2]), made[4], made[8]],
                         [10, str((("go", None, ("c",), 6),)), (("go", None, (), 10),), (("go", None, ("c",), 0),)])
        self.assertEqual(webs(made)[1:], (((-1, 1), (6, 0)), ((0, 0),)))
        word, times, renamed, rows, starts = mended(D)
        self.assertEqual(str(renamed), "c = slow\nsend b\ngo 6 a\n-\ngo 10\n-\nb = slow\nsend c\ngo 0 a\n-")
        self.assertEqual(judge(renamed, *renamed.gaps)[0], "open")
        self.assertEqual(renamed.machine, Machine.read(str(M)))


if __name__ == "__main__":
    unittest.main()
