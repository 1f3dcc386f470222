import unittest

from versionpick.packs import answers

from tests.calls import BEGIN, CHOOSE, add, ask, chosen, joined, run, want


class Begin(unittest.TestCase):
    def test_it_answers_nought(self):
        self.assertEqual(run(BEGIN), [[0]])
        self.assertEqual(run(BEGIN, BEGIN), [[0], [0]])

    def test_packages_are_gone(self):
        given = run(add("a", "1.0.0"), add("a", "2.0.0"), BEGIN, want("a", "*"), add("b", "1.0.0"), add("a", "2.0.0"))
        self.assertEqual(given[2:], [[0], [-1], [0], [0]])

    def test_packages_are_numbered_anew(self):
        given = run(add("a", "1.0.0"), BEGIN, add("b", "1.0.0"), add("a", "1.0.0"), want("b", "*"), CHOOSE)
        self.assertEqual(given[-1], chosen(0, -1))

    def test_asks_are_gone(self):
        same = [add("a", "1.0.0"), add("b", "1.0.0")]
        given = run(*same, ask("a", "1.0.0", "b", "2.0.0"), BEGIN, *same, want("a", "*"), CHOOSE)
        self.assertEqual(given[-1], chosen(0, -1))

    def test_wants_are_gone(self):
        given = run(add("a", "1.0.0"), want("a", "2.0.0"), CHOOSE, BEGIN, CHOOSE, add("a", "1.0.0"), CHOOSE)
        self.assertEqual([given[2], given[4], given[6]], [[-1], chosen(), chosen(-1)])

    def test_there_is_room_again(self):
        full = [add("p%d" % k, "1.0.0") for k in range(32)]
        self.assertEqual(run(*full, BEGIN, *full, add("more", "1.0.0"))[33:], [[0]] * 32 + [[-3]])
        full = [add("a", "1.0.0")] + [want("a", "*")] * 16
        self.assertEqual(run(*full, BEGIN, *full, want("a", "*"))[18:], [[0]] * 17 + [[-3]])


class Lists(unittest.TestCase):
    def test_how_answers_lie(self):
        calls = [1, 1, 97, 5, 49, 46, 48, 46, 48, 3, 1, 97, 1, 42, 4, 3, 1, 97, 0, 5, 4]
        expected = [1, 0, 1, 0, 33, 1, 0] + [-1] * 31 + [1, -2, 1, 0, 33, 0] + [-1] * 32
        self.assertEqual(answers(calls), expected)

    def test_how_the_rows_of_ask_lie(self):
        version = [5, 49, 46, 48, 46, 48]
        calls = [1, 1, 97] + version + [1, 1, 98] + version + [2, 1, 97] + version + [1, 98, 1, 42, 3, 1, 97, 1, 42, 4]
        self.assertEqual(answers(calls), [1, 0, 1, 0, 1, 0, 1, 0, 33, 2, 0, 0] + [-1] * 30)

    def test_empty_rows(self):
        self.assertEqual(answers([1, 0, 0, 2, 0, 0, 0, 0, 3, 0, 0]), [1, -2, 1, -2, 1, -2])

    def test_whole_numbers_alone_are_given_back(self):
        calls = joined([add("a", "1.0.0"), ask("a", "1.0.0", "a", "*"), want("a", "*"), CHOOSE, BEGIN, want("a", "x")])
        given = answers(calls)
        self.assertIs(type(given), list)
        self.assertEqual({type(number) for number in given}, {int})

    def test_what_is_handed_in_stays_the_same(self):
        calls = joined([add("a", "1.0.0"), add("a", "x"), ask("a", "1.0.0", "a", "*"), want("a", "*"), CHOOSE, BEGIN])
        before = list(calls)
        answers(calls)
        self.assertEqual(calls, before)

    def test_nothing_is_kept(self):
        calls = joined([add("a", "1.0.0"), add("b", "1.0.0"), ask("a", "1.0.0", "b", "*"), want("a", "*"), CHOOSE])
        first = answers(calls)
        self.assertEqual(first, [1, 0, 1, 0, 1, 0, 1, 0, 33] + chosen(0, 0))
        self.assertEqual(answers(calls), first)
        self.assertEqual(answers(joined([want("a", "*"), CHOOSE])), [1, -1, 33] + chosen())

    def test_what_is_given_back_is_new(self):
        first = answers(list(CHOOSE))
        first.append(7)
        self.assertEqual(answers(list(CHOOSE)), [33] + chosen())

    def test_a_hundred_and_fifty_calls_of_long_texts(self):
        long_name = "x" * 256
        long_text = "1.0.0-" + "y" * 250
        calls = joined([ask(long_name, long_text, long_name, long_text)] * 79 + [want(long_name, "*")] * 71)
        self.assertLessEqual(len(calls), 100000)
        self.assertEqual(answers(calls), [1, -1] * 150)


if __name__ == "__main__":
    unittest.main()
