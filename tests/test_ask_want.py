import unittest

from tests.calls import CHOOSE, add, ask, chosen, last, run, want

TWO = [add("a", "1.0.0"), add("b", "1.0.0")]


class Ask(unittest.TestCase):
    def test_asked(self):
        self.assertEqual(last(*TWO, ask("a", "1.0.0", "b", "^1.0.0")), 0)

    def test_a_package_may_ask_itself(self):
        calls = [add("a", "1.0.0"), add("a", "2.0.0"), ask("a", "2.0.0", "a", "<2.0.0")]
        self.assertEqual(last(*calls), 0)
        self.assertEqual(last(*calls, want("a", "*"), CHOOSE), chosen(0))

    def test_not_such(self):
        self.assertEqual(last(*TWO, ask("a", "1.0", "b", "*")), -2)
        self.assertEqual(last(*TWO, ask("a", "1.0.0", "b", "")), -2)
        self.assertEqual(last(*TWO, ask("a", "", "b", "")), -2)

    def test_not_there(self):
        self.assertEqual(last(*TWO, ask("c", "1.0.0", "b", "*")), -1)
        self.assertEqual(last(*TWO, ask("a", "2.0.0", "b", "*")), -1)
        self.assertEqual(last(*TWO, ask("a", "1.0.0", "c", "*")), -1)
        self.assertEqual(last(*TWO, add("b", "2.0.0"), ask("a", "2.0.0", "b", "*")), -1)

    def test_only_add_minds_what_a_name_is(self):
        for name in ("", "A", "x" * 33, "a b", "\xff"):
            with self.subTest(name=name):
                self.assertEqual(last(*TWO, ask(name, "1.0.0", "b", "*")), -1)
                self.assertEqual(last(*TWO, ask("a", "1.0.0", name, "*")), -1)

    def test_sixteen_of_one_version(self):
        full = TWO + [ask("a", "1.0.0", "b", "*")] * 16
        self.assertEqual(run(*full)[2:], [[0]] * 16)
        self.assertEqual(last(*full, ask("a", "1.0.0", "b", "*")), -3)
        self.assertEqual(last(*full, ask("a", "1.0.0", "a", "1.0.0")), -3)

    def test_others_still_have_room(self):
        full = TWO + [ask("a", "1.0.0", "b", "*")] * 16
        self.assertEqual(last(*full, ask("b", "1.0.0", "a", "*")), 0)
        self.assertEqual(last(*full, want("b", "*")), 0)
        self.assertEqual(last(*full, add("a", "2.0.0"), ask("a", "2.0.0", "b", "*")), 0)

    def test_which_refusal_comes_first(self):
        full = TWO + [ask("a", "1.0.0", "b", "*")] * 16
        self.assertEqual(last(*full, ask("a", "1.0.0", "b", "x")), -2)
        self.assertEqual(last(*full, ask("a", "1.0.0", "c", "*")), -1)
        self.assertEqual(last(*full, ask("a", "1.0.0", "c", "x")), -2)
        self.assertEqual(last(*TWO, ask("c", "1.0.0", "b", "x")), -2)
        self.assertEqual(last(*TWO, ask("c", "1", "b", "*")), -2)
        self.assertEqual(last(*TWO, ask("a", "2.0.0", "b", "x")), -2)

    def test_a_refusal_changes_nothing(self):
        refused = [ask("a", "1.0.0", "b", "x"), ask("a", "1", "b", "2.0.0"), ask("a", "1.0.0", "c", "*"),
                   ask("c", "1.0.0", "b", "2.0.0"), ask("a", "2.0.0", "b", "2.0.0")]
        self.assertEqual(run(*TWO, *refused)[2:], [[-2], [-2], [-1], [-1], [-1]])
        self.assertEqual(last(*TWO, *refused, want("a", "*"), CHOOSE), chosen(0, -1))
        self.assertEqual(last(*TWO, *refused, add("c", "1.0.0"), want("c", "*"), CHOOSE), chosen(-1, -1, 0))

    def test_refused_asks_take_no_room(self):
        refused = [ask("a", "1.0.0", "b", "x"), ask("a", "1.0.0", "c", "*")] * 10
        given = run(*TWO, *refused, *[ask("a", "1.0.0", "b", "*")] * 17)
        self.assertEqual(given[22:], [[0]] * 16 + [[-3]])

    def test_an_ask_refused_for_room_is_not_kept(self):
        full = TWO + [ask("a", "1.0.0", "b", "*")] * 16 + [ask("a", "1.0.0", "b", "2.0.0"), want("a", "*")]
        self.assertEqual(last(*full, CHOOSE), chosen(0, 0))

    def test_all_sixteen_are_kept(self):
        calls = TWO + [ask("a", "1.0.0", "b", "*")] * 15 + [ask("a", "1.0.0", "b", "2.0.0"), want("a", "*")]
        self.assertEqual(last(*calls, CHOOSE), -1)


class Want(unittest.TestCase):
    def test_wanted(self):
        self.assertEqual(last(*TWO, want("b", ">=1.0.0 <2.0.0|3.0.0")), 0)

    def test_not_such(self):
        for condition in ("", "x", "1.0", "1.0.0 ", ">"):
            with self.subTest(condition=condition):
                self.assertEqual(last(*TWO, want("b", condition)), -2)

    def test_not_there(self):
        for name in ("c", "", "A", "x" * 33, "\x00"):
            with self.subTest(name=name):
                self.assertEqual(last(*TWO, want(name, "*")), -1)

    def test_sixteen_from_outside(self):
        full = TWO + [want("a", "*"), want("b", "*")] * 8
        self.assertEqual(run(*full)[2:], [[0]] * 16)
        self.assertEqual(last(*full, want("a", "*")), -3)
        self.assertEqual(last(*full, want("b", "1.0.0")), -3)
        self.assertEqual(last(*full, ask("a", "1.0.0", "b", "*")), 0)

    def test_which_refusal_comes_first(self):
        full = TWO + [want("a", "*")] * 16
        self.assertEqual(last(*full, want("a", "x")), -2)
        self.assertEqual(last(*full, want("c", "x")), -2)
        self.assertEqual(last(*full, want("c", "*")), -1)
        self.assertEqual(last(*TWO, want("c", "x")), -2)

    def test_a_refusal_changes_nothing(self):
        refused = [want("a", "x"), want("c", "*")]
        self.assertEqual(last(*TWO, *refused * 8, CHOOSE), chosen(-1, -1))
        self.assertEqual(last(*TWO, *refused, add("c", "1.0.0"), CHOOSE), chosen(-1, -1, -1))
        given = run(*TWO, *refused * 10, *[want("a", "*")] * 17)
        self.assertEqual(given[22:], [[0]] * 16 + [[-3]])

    def test_a_want_refused_for_room_is_not_kept(self):
        full = TWO + [want("a", "*")] * 16 + [want("b", "2.0.0"), CHOOSE]
        self.assertEqual(last(*full), chosen(0, -1))

    def test_all_sixteen_are_kept(self):
        self.assertEqual(last(*TWO, *[want("a", "*")] * 15, want("b", "*"), CHOOSE), chosen(0, 0))


if __name__ == "__main__":
    unittest.main()
