import unittest

from latelands.errors import InvalidMachine
from latelands.kinds import Copy, Give, Jump, Kind, Make, is_name
from tests.helpers import odd_values

NAMES = ["a", "z", "calc", "abcdefgh", "zzzzzzzz", "late", "width", "make"]
NO_NAMES = ["", "abcdefghi", "A", "Calc", "cALC", "a1", "1", "a_b", "a b", " a", "a ", "a\n", "-", "=", ";", "`", "{",
            b"a", ("a",), ["a"]]
PLAIN = (Kind, Give, Jump)
DELAYED = (Make, Copy)


class KindsTest(unittest.TestCase):

    def refused(self, reason, made, *values, **named):
        with self.assertRaises(InvalidMachine) as caught:
            made(*values, **named)
        self.assertEqual(caught.exception.reason, reason)

    def test_the_examples(self):
        shown = [Make("calc", 2), Give("send"), Copy("move", 5).delay, Give("send").delay, Give("send").family,
                 is_name("alike"), is_name("a_b")]
        self.assertEqual(repr(shown), "[Make('calc', 2), Give('send'), 5, None, 'give', True, False]")
        self.refused("name", Make, "alike", 9)

    def test_names(self):
        for name in NAMES + ["alike"]:
            self.assertIs(is_name(name), True, name)
        for name in NO_NAMES + odd_values():
            self.assertIs(is_name(name), False, name)
        self.assertIs(is_name(value="r"), True)

    def test_kinds_take_names_only(self):
        for made in PLAIN + DELAYED:
            delays = (1,) if made in DELAYED else ()
            for name in NAMES:
                self.assertEqual(made(name, *delays).name, name)
            for name in NO_NAMES + odd_values() + ["alike"]:
                self.refused("name", made, name, *delays)

    def test_delays(self):
        for made in DELAYED:
            for delay in range(1, 7):
                self.assertEqual(made("calc", delay).delay, delay)
            for delay in [0, 7, -1, 60] + odd_values() + ["1", (1,)]:
                self.refused("delay", made, "calc", delay)

    def test_a_wrong_name_comes_ahead_of_a_wrong_delay(self):
        for made in DELAYED:
            for name, delay in [("", 0), ("alike", 7), (None, None), (1, True)]:
                self.refused("name", made, name, delay)

    def test_arguments_by_name(self):
        self.assertEqual(Make(delay=3, name="calc"), Make("calc", 3))
        self.assertEqual(Copy(name="calc", delay=3), Copy("calc", 3))
        for made in PLAIN:
            self.assertEqual(made(name="calc"), made("calc"))
        self.refused("delay", Make, delay=0, name="calc")

    def test_attributes(self):
        for kind, family, delay in [(Kind("x"), "", None), (Make("x", 2), "make", 2), (Copy("x", 3), "copy", 3),
                                    (Give("x"), "give", None), (Jump("x"), "jump", None)]:
            self.assertEqual((kind.name, kind.family, kind.delay), ("x", family, delay))
            self.assertEqual(vars(kind).keys() & {"name", "family", "delay"}, {"name", "family", "delay"})

    def test_classes(self):
        for made in (Make, Copy, Give, Jump):
            self.assertEqual(made.__bases__, (Kind,))
            for method in ("__init__", "__eq__", "__repr__"):
                self.assertIn(method, vars(made))
            self.assertEqual(made.__module__, "latelands.kinds")

    def test_equal_kinds(self):
        def made():
            return [made_of(name, *delay) for name in ("x", "y") for made_of in PLAIN + DELAYED
                    for delay in ([(1,), (2,)] if made_of in DELAYED else [()])]
        for at, one in enumerate(made()):
            for place, other in enumerate(made()):
                self.assertIs(one == other, at == place, (one, other))
                self.assertIs(one != other, at != place, (one, other))
                self.assertIs(one.__eq__(other), at == place, (one, other))

    def test_kinds_are_unlike_all_other_values(self):
        for kind in (Kind("x"), Make("x", 1), Copy("x", 1), Give("x"), Jump("x")):
            for value in odd_values() + ["x", ("x", 1), ["x"], repr(kind)]:
                self.assertIs(kind == value, False)
                self.assertIs(value == kind, False)

    def test_repr(self):
        shown = [repr(kind) for kind in (Kind("a"), Make("b", 1), Copy("abcdefgh", 6), Give("d"), Jump("e"))]
        self.assertEqual(shown, ["Kind('a')", "Make('b', 1)", "Copy('abcdefgh', 6)", "Give('d')", "Jump('e')"])


if __name__ == "__main__":
    unittest.main()
