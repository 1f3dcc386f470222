"""Point 4 over whole sessions: each refusal, which of them comes first, and that nothing changes by one."""

import unittest

from tests.calls import CHOOSE, add, ask, chosen, run, want

# No room is left: for a version of v, for an ask of a in 1.0.0, and from outside. There are 2 * 2 * 33 choices.
FULL = ([add("a", "1.0.0"), add("b", "1.0.0")] + [add("v", "1.0.%d" % k) for k in range(32)]
        + [ask("a", "1.0.0", "v", "<=1.0.%d" % (30 - k)) for k in range(16)] + [want("a", "*")] * 16)
FULL_ANSWERS = [[0], [0]] + [[k] for k in range(32)] + [[0]] * 32
FULL_CHOICE = chosen(0, -1, 15)
# No room is left for a package.
MANY = [add("p%d" % k, "1.0.0") for k in range(32)]

NOT_SUCH = (
    add("V", "1.1.0"), add("", "1.1.0"), add("x" * 33, "1.1.0"), add("v", "1.1"), add("v", ""), add("v", "1.0.01"),
    add("V", "1.0.0"), add("V", "1.1"), add("", ""), ask("a", "1.0", "v", "*"), ask("a", "1.0.0", "v", ""),
    ask("a", "1.0.0", "v", "1.0"), ask("a", "1.0", "c", "*"), ask("c", "1.0", "v", "*"), ask("c", "1.0.0", "v", "* "),
    ask("a", "2.0.0", "v", "**"), ask("a", "1.0.0", "c", "|"), ask("c", "x", "c", "x"), ask("", "", "", ""),
    want("b", ""), want("b", ">"), want("b", "1.0.0 "), want("c", ""), want("", ""), want("B", "x"),
)
NOT_THERE = (
    add("v", "1.0.0"), add("v", "1.0.31"), add("a", "1.0.0"), ask("c", "1.0.0", "v", "*"), ask("a", "2.0.0", "v", "*"),
    ask("a", "1.0.0-a", "v", "*"), ask("a", "1.0.0", "c", "*"), ask("c", "1.0.0", "c", "*"), ask("a", "1.0.31", "v", "*"),
    ask("", "1.0.0", "v", "*"), ask("A", "1.0.0", "v", "*"), ask("a", "1.0.0", "", "*"), ask("a", "1.0.0", "V", "*"),
    want("c", "*"), want("", "*"), want("V", "*"), want("x" * 33, "*"),
)
NO_ROOM = (
    add("v", "1.1.0"), add("v", "1.0.0-a"), ask("a", "1.0.0", "v", "1.0.0"), ask("a", "1.0.0", "b", "*"),
    ask("a", "1.0.0", "a", "2.0.0"), want("b", "*"), want("a", "2.0.0"), want("v", "1.0.31"),
)
# What would answer otherwise if a refused call had left anything.
PROBES = [
    CHOOSE, ask("a", "1.1.0", "a", "*"), ask("v", "1.1.0", "a", "*"), ask("v", "1.0.31", "b", "*"), add("a", "0.9.0"),
    add("b", "2.0.0"), want("c", "*"), want("a", "*"), CHOOSE, add("c", "1.0.0"), ask("c", "1.0.0", "a", "*"),
]
PROBES_ANSWERS = [FULL_CHOICE, [-1], [-1], [0], [1], [1], [-1], [-3], FULL_CHOICE, [0], [0]]


class EachRefusal(unittest.TestCase):
    def check(self, refused, number):
        for call in refused:
            with self.subTest(call=call):
                given = run(*FULL, call, *PROBES)
                self.assertEqual(given[:len(FULL)], FULL_ANSWERS)
                self.assertEqual(given[len(FULL)], [number])
                self.assertEqual(given[len(FULL) + 1:], PROBES_ANSWERS)

    def test_without_a_refusal(self):
        self.assertEqual(run(*FULL, *PROBES), FULL_ANSWERS + PROBES_ANSWERS)

    def test_not_such(self):
        self.check(NOT_SUCH, -2)

    def test_there_already_or_not_there(self):
        self.check(NOT_THERE, -1)

    def test_no_room(self):
        self.check(NO_ROOM, -3)

    def test_all_in_one_session(self):
        refused = [*NO_ROOM, *NOT_THERE, *NOT_SUCH]
        given = run(*FULL, *refused, *PROBES)
        self.assertLessEqual(len(given), 150)
        expected = [[-3]] * len(NO_ROOM) + [[-1]] * len(NOT_THERE) + [[-2]] * len(NOT_SUCH)
        self.assertEqual(given, FULL_ANSWERS + expected + PROBES_ANSWERS)

    def test_a_refusal_before_there_is_anything(self):
        given = run(want("a", "*"), want("a", ""), ask("a", "1.0.0", "a", "*"), ask("a", "1", "a", "*"), add("a", "1"),
                    add("A", "1.0.0"), CHOOSE, add("a", "1.0.0"), want("a", "*"), CHOOSE)
        self.assertEqual(given, [[-1], [-2], [-1], [-2], [-2], [-2], chosen(), [0], [0], chosen(0)])


class ManyPackages(unittest.TestCase):
    def test_which_comes_first(self):
        refused = [(add("more", "1.0"), -2), (add("More", "1.0.0"), -2), (add("p0", "1.0"), -2), (add("p0", "1.0.0"), -1),
                   (add("p31", "1.0.0"), -1), (add("more", "1.0.0"), -3), (add("x" * 32, "1.0.0"), -3)]
        given = run(*MANY, *[call for call, number in refused])
        self.assertEqual(given[len(MANY):], [[number] for call, number in refused])

    def test_nothing_changes(self):
        probes = [want("more", "*"), ask("more", "1.0.0", "p0", "*"), ask("p0", "1.0.0", "more", "*"), add("p0", "2.0.0"),
                  add("p31", "2.0.0"), want("p31", "2.0.0"), add("more", "1.0.0")]
        given = run(*MANY, add("more", "1.0.0"), add("more", "1.0"), add("p31", "1.0.0"), *probes)
        self.assertEqual(given[len(MANY):], [[-3], [-2], [-1], [-1], [-1], [-1], [1], [1], [0], [-3]])


if __name__ == "__main__":
    unittest.main()
