import unittest

from tests.calls import CHOOSE, add, ask, chosen, last, run, want


def adds(*pairs):
    """One add for each version: adds(("a", "1.0.0 2.0.0")) makes two."""
    return [add(name, version) for name, versions in pairs for version in versions.split()]


class Answer(unittest.TestCase):
    def test_no_packages(self):
        self.assertEqual(run(CHOOSE), [[0] + [-1] * 32])

    def test_no_wants(self):
        calls = adds(("a", "1.0.0"), ("b", "1.0.0")) + [ask("a", "1.0.0", "b", "*"), CHOOSE]
        self.assertEqual(run(*calls)[-1], [0] + [-1] * 32)

    def test_the_count_then_thirty_two_numbers(self):
        calls = adds(("a", "1.0.0"), ("b", "1.0.0 2.0.0"), ("c", "1.0.0")) + [want("b", "*"), want("c", "*"), CHOOSE]
        self.assertEqual(run(*calls)[-1], [2, -1, 1, 0] + [-1] * 29)

    def test_no_right_choice_is_its_number_alone(self):
        self.assertEqual(run(add("a", "1.0.0"), want("a", "2.0.0"), CHOOSE)[-1], [-1])

    def test_choosing_changes_nothing(self):
        calls = adds(("a", "1.0.0 2.0.0")) + [want("a", "<2.0.0"), CHOOSE, CHOOSE, add("a", "1.5.0"), CHOOSE]
        self.assertEqual(run(*calls)[3:], [chosen(0), chosen(0), [2], chosen(2)])

    def test_what_comes_later_counts(self):
        calls = adds(("a", "1.0.0"), ("b", "1.0.0")) + [want("a", "*"), CHOOSE, ask("a", "1.0.0", "b", "<1.0.0"), CHOOSE]
        calls = calls + [add("b", "0.9.0"), CHOOSE, want("b", "1.0.0"), CHOOSE]
        given = run(*calls)
        self.assertEqual([given[3], given[5], given[7], given[9]], [chosen(0, -1), [-1], chosen(0, 1), [-1]])


class Right(unittest.TestCase):
    def test_a_chain(self):
        calls = adds(("a", "1.0.0"), ("b", "1.0.0 2.0.0"), ("c", "1.0.0 2.0.0 3.0.0"))
        calls = calls + [ask("a", "1.0.0", "b", "<2.0.0"), ask("b", "1.0.0", "c", "^2.0.0"), want("a", "*"), CHOOSE]
        self.assertEqual(last(*calls), chosen(0, 0, 1))

    def test_a_chain_against_the_numbers(self):
        calls = adds(("c", "1.0.0 2.0.0"), ("b", "1.0.0"), ("a", "1.0.0"))
        calls = calls + [ask("a", "1.0.0", "b", "*"), ask("b", "1.0.0", "c", "1.0.0"), want("a", "*"), CHOOSE]
        self.assertEqual(last(*calls), chosen(0, 0, 0))

    def test_a_chain_that_breaks_at_its_end(self):
        calls = adds(("a", "1.0.0"), ("b", "1.0.0"), ("c", "1.0.0"))
        calls = calls + [ask("a", "1.0.0", "b", "*"), ask("b", "1.0.0", "c", "2.0.0"), want("a", "*"), CHOOSE]
        self.assertEqual(last(*calls), -1)

    def test_packages_that_ask_each_other(self):
        calls = adds(("a", "1.0.0"), ("b", "1.0.0"))
        calls = calls + [ask("a", "1.0.0", "b", "*"), ask("b", "1.0.0", "a", "*")]
        self.assertEqual(last(*calls, CHOOSE), chosen(-1, -1))
        self.assertEqual(last(*calls, want("a", "*"), CHOOSE), chosen(0, 0))
        self.assertEqual(last(*calls, want("b", "*"), CHOOSE), chosen(0, 0))

    def test_packages_that_ask_each_other_beside_one_that_is_wanted(self):
        calls = adds(("w", "1.0.0"), ("a", "1.0.0"), ("b", "1.0.0"))
        calls = calls + [ask("a", "1.0.0", "b", "*"), ask("b", "1.0.0", "a", "*"), want("w", "*"), CHOOSE]
        self.assertEqual(last(*calls), chosen(0, -1, -1))

    def test_packages_that_ask_each_other_and_disagree(self):
        calls = adds(("a", "1.0.0 2.0.0"), ("b", "1.0.0 2.0.0"))
        calls = calls + [ask("a", "2.0.0", "b", "2.0.0"), ask("b", "2.0.0", "a", "1.0.0"), ask("a", "1.0.0", "b", "1.0.0")]
        self.assertEqual(last(*calls, want("a", "*"), CHOOSE), chosen(0, 0))
        self.assertEqual(last(*calls, want("a", "2.0.0"), CHOOSE), -1)

    def test_a_package_asked_by_a_version_that_is_not_chosen_stays_out(self):
        calls = adds(("a", "1.0.0 2.0.0"), ("b", "1.0.0")) + [ask("a", "1.0.0", "b", "*"), want("a", "*"), CHOOSE]
        self.assertEqual(last(*calls), chosen(1, -1))

    def test_a_package_that_asks_itself_stays_out(self):
        calls = adds(("a", "1.0.0"), ("b", "1.0.0")) + [ask("a", "1.0.0", "a", "*"), want("b", "*"), CHOOSE]
        self.assertEqual(last(*calls), chosen(-1, 0))

    def test_a_version_that_its_own_ask_rules_out(self):
        calls = adds(("a", "1.0.0 2.0.0")) + [ask("a", "2.0.0", "a", "1.0.0"), want("a", "*"), CHOOSE]
        self.assertEqual(last(*calls), chosen(0))

    def test_a_version_passed_over(self):
        calls = adds(("a", "1.0.0 2.0.0"), ("b", "1.0.0"))
        calls = calls + [ask("a", "2.0.0", "b", ">=2.0.0"), want("a", "*"), CHOOSE]
        self.assertEqual(last(*calls), chosen(0, -1))

    def test_a_version_passed_over_for_what_is_asked_two_steps_on(self):
        calls = adds(("a", "1.0.0 2.0.0"), ("b", "1.0.0"), ("c", "1.0.0"))
        calls = calls + [ask("a", "2.0.0", "b", "*"), ask("b", "1.0.0", "c", ">1.0.0"), want("a", "*"), CHOOSE]
        self.assertEqual(last(*calls), chosen(0, -1, -1))

    def test_two_that_ask_for_one_package(self):
        calls = adds(("a", "1.0.0"), ("b", "1.0.0"), ("c", "1.0.0 1.5.0 2.0.0"))
        calls = calls + [ask("a", "1.0.0", "c", ">=1.5.0"), ask("b", "1.0.0", "c", "<2.0.0")]
        calls = calls + [want("a", "*"), want("b", "*")]
        self.assertEqual(last(*calls, CHOOSE), chosen(0, 0, 1))
        self.assertEqual(last(*calls, want("c", "2.0.0"), CHOOSE), -1)

    def test_every_ask_of_a_version_has_to_be_met(self):
        calls = adds(("a", "1.0.0"), ("b", "1.0.0 2.0.0"), ("c", "1.0.0"))
        calls = calls + [ask("a", "1.0.0", "b", "*"), ask("a", "1.0.0", "c", "*"), ask("a", "1.0.0", "b", "<2.0.0")]
        self.assertEqual(last(*calls, want("a", "*"), CHOOSE), chosen(0, 0, 0))
        self.assertEqual(last(*calls, want("a", "*"), want("c", ">1.0.0"), CHOOSE), -1)

    def test_every_want_has_to_be_met(self):
        calls = adds(("a", "1.0.0 2.0.0 3.0.0")) + [want("a", ">1.0.0"), want("a", "<3.0.0"), CHOOSE]
        self.assertEqual(last(*calls), chosen(1))
        calls = adds(("a", "1.0.0")) + [want("a", "1.0.0"), want("a", "2.0.0"), CHOOSE]
        self.assertEqual(last(*calls), -1)


class Best(unittest.TestCase):
    def test_the_latest_by_the_order_not_by_the_number(self):
        self.assertEqual(last(*adds(("a", "1.0.0 3.0.0 2.0.0")), want("a", "*"), CHOOSE), chosen(1))
        self.assertEqual(last(*adds(("a", "9.0.0 10.0.0 2.0.0")), want("a", "*"), CHOOSE), chosen(1))
        self.assertEqual(last(*adds(("a", "3.0.0 2.0.0 1.0.0")), want("a", "*"), CHOOSE), chosen(0))

    def test_versions_that_are_not_done_yet(self):
        self.assertEqual(last(*adds(("a", "1.0.0 1.0.0-z")), want("a", "*"), CHOOSE), chosen(0))
        self.assertEqual(last(*adds(("a", "1.0.0 1.0.1-0")), want("a", "*"), CHOOSE), chosen(1))
        self.assertEqual(last(*adds(("a", "1.0.0-10 1.0.0-9 1.0.0-a 1.0.0-B")), want("a", "*"), CHOOSE), chosen(2))
        self.assertEqual(last(*adds(("a", "1.0.0-a.10 1.0.0-a.9 1.0.0-a")), want("a", "*"), CHOOSE), chosen(0))
        self.assertEqual(last(*adds(("a", "1.0.0-a 1.0.0-aa 1.0.0-a.b")), want("a", "*"), CHOOSE), chosen(1))
        self.assertEqual(last(*adds(("a", "1.0.0 2.0.0-0")), want("a", "^1.0.0"), CHOOSE), chosen(0))

    def test_none_of_an_early_package_is_better_than_some(self):
        # b in 2.0.0 brings a in; b in 1.0.0 does without.
        calls = adds(("a", "1.0.0"), ("b", "2.0.0 1.0.0")) + [ask("b", "2.0.0", "a", "*"), want("b", "*"), CHOOSE]
        self.assertEqual(last(*calls), chosen(-1, 1))

    def test_a_late_package_counts_less(self):
        calls = adds(("b", "2.0.0 1.0.0"), ("a", "1.0.0")) + [ask("b", "2.0.0", "a", "*"), want("b", "*"), CHOOSE]
        self.assertEqual(last(*calls), chosen(0, 0))

    def test_fewer_packages_are_not_better_by_themselves(self):
        calls = adds(("a", "1.0.0 2.0.0"), ("b", "1.0.0"), ("c", "1.0.0"))
        calls = calls + [ask("a", "2.0.0", "b", "*"), ask("a", "2.0.0", "c", "*"), want("a", "*"), CHOOSE]
        self.assertEqual(last(*calls), chosen(1, 0, 0))

    def test_the_first_package_decides(self):
        calls = adds(("a", "1.0.0 2.0.0"), ("b", "1.0.0 2.0.0"))
        calls = calls + [ask("a", "2.0.0", "b", "1.0.0"), want("a", "*"), want("b", "*"), CHOOSE]
        self.assertEqual(last(*calls), chosen(1, 0))
        calls = adds(("a", "1.0.0 2.0.0"), ("b", "1.0.0 2.0.0"))
        calls = calls + [ask("b", "2.0.0", "a", "1.0.0"), want("a", "*"), want("b", "*"), CHOOSE]
        self.assertEqual(last(*calls), chosen(1, 0))

    def test_the_second_decides_where_the_first_is_the_same(self):
        calls = adds(("a", "1.0.0"), ("b", "1.0.0 2.0.0"), ("c", "1.0.0 2.0.0"))
        calls = calls + [ask("b", "2.0.0", "c", "<2.0.0"), want("a", "*"), want("b", "*"), want("c", "*"), CHOOSE]
        self.assertEqual(last(*calls), chosen(0, 1, 0))

    def test_none_counts_at_the_second_package_too(self):
        calls = adds(("a", "1.0.0"), ("b", "1.0.0"), ("c", "1.0.0 2.0.0"))
        calls = calls + [ask("c", "2.0.0", "b", "*"), want("a", "*"), want("c", "*"), CHOOSE]
        self.assertEqual(last(*calls), chosen(0, -1, 0))

    def test_as_many_choices_as_there_may_be(self):
        # 19 versions of two packages, each asking for its like alone: 20 * 20 choices.
        versions = " ".join("1.0.%d" % k for k in range(19))
        calls = adds(("a", versions), ("b", versions))
        calls = calls + [ask("a", "1.0.%d" % k, "b", "1.0.%d" % (18 - k)) for k in range(19)]
        self.assertEqual(last(*calls, want("a", "*"), CHOOSE), chosen(18, 0))
        self.assertEqual(last(*calls, want("b", "*"), want("a", "*"), want("b", ">1.0.17"), CHOOSE), chosen(0, 18))
        self.assertEqual(last(*calls, want("a", "1.0.3"), want("b", "1.0.3"), CHOOSE), -1)

    def test_as_many_packages_as_there_may_be(self):
        names = "abcdefgh"
        calls = [add(name, "1.0.0") for name in names]
        calls = calls + [ask(names[k], "1.0.0", names[k + 1], "*") for k in range(7)]
        self.assertEqual(last(*calls, want("a", "*"), CHOOSE), chosen(*[0] * 8))
        self.assertEqual(last(*calls, want("e", "*"), CHOOSE), chosen(-1, -1, -1, -1, 0, 0, 0, 0))


if __name__ == "__main__":
    unittest.main()
