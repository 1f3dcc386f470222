import unittest

from versionpick.versions import compare, holds

from tests.calls import is_taken, numbers_of
from tests.texts import IN_ORDER, NO_CONDITIONS, NO_VERSIONS, VERSIONS

MOST = "999999999"


def held(condition, version):
    return holds(numbers_of(condition), numbers_of(version))


class Check(unittest.TestCase):
    def check(self, condition, inside, outside):
        """The versions with blanks between."""
        for text, expected in ((inside, [1]), (outside, [0])):
            for version in text.split():
                with self.subTest(condition=condition, version=version):
                    self.assertEqual(held(condition, version), expected)


class Signs(Check):
    def test_every_version(self):
        self.check("*", " ".join(VERSIONS + IN_ORDER), "")

    def test_from_it_on(self):
        self.check(">=1.2.3", "1.2.3 1.2.4-0 1.2.4 1.3.0 2.0.0 10.0.0", "1.2.3-z 1.2.3-0 1.2.2 1.1.9 0.9.9")
        self.check(">=1.2.3-b", "1.2.3-b 1.2.3-b.0 1.2.3-c 1.2.3", "1.2.3-a 1.2.3-a.z 1.2.3-9 1.2.2")

    def test_behind_it(self):
        self.check(">1.2.3", "1.2.4-0 1.2.4 1.10.0 2.0.0-a", "1.2.3 1.2.3-z 1.2.2 0.0.0")
        self.check(">1.2.3-b", "1.2.3-b.0 1.2.3-ba 1.2.3", "1.2.3-b 1.2.3-B 1.2.3-a.b")

    def test_up_to_it(self):
        self.check("<=1.2.3", "1.2.3 1.2.3-z 1.2.2 0.0.0-0", "1.2.4-0 1.2.4 1.10.0 2.0.0")
        self.check("<=1.2.3-b", "1.2.3-b 1.2.3-a.z 1.2.3-0 1.2.2", "1.2.3-b.0 1.2.3-c 1.2.3")

    def test_before_it(self):
        self.check("<1.2.3", "1.2.3-z 1.2.3-0 1.2.2 0.9.9", "1.2.3 1.2.4-0 1.2.4")
        self.check("<1.2.3-b", "1.2.3-a 1.2.3-B 1.2.3-7", "1.2.3-b 1.2.3-b.0 1.2.3")

    def test_it_alone(self):
        for sign in ("=", ""):
            self.check(sign + "1.2.3", "1.2.3", "1.2.3-z 1.2.3-0 1.2.4-0 1.2.2 1.2.4 1.2.30 0.2.3 1.3.3")
            self.check(sign + "1.2.3-a.0", "1.2.3-a.0", "1.2.3-a 1.2.3-a.0.0 1.2.3-A.0 1.2.3-a.1 1.2.3")
            self.check(sign + "0.0.0", "0.0.0", "0.0.0-0 0.0.1-0 0.0.1")

    def test_tilde(self):
        self.check("~1.2.3", "1.2.3 1.2.4-0 1.2.4 1.2.999999999", "1.2.3-z 1.2.2 1.3.0-0 1.3.0-a 1.3.0 1.4.0 2.2.3 0.2.3")
        self.check("~1.2.0", "1.2.0 1.2.9 1.2.1-0", "1.2.0-z 1.1.9 1.3.0-0 1.3.0-0.0 1.3.0")
        self.check("~1.2.3-b", "1.2.3-b 1.2.3-b.0 1.2.3 1.2.9", "1.2.3-a 1.2.2 1.3.0-0 1.3.0-b")
        self.check("~1.0.0", "1.0.0 1.0.9", "1.0.0-a 1.1.0-0 1.1.0 0.9.9")
        self.check("~0.0.0", "0.0.0 0.0.1-0 0.0.9", "0.0.0-z 0.1.0-0 0.1.0 1.0.0")
        self.check("~0.0.3", "0.0.3 0.0.4 0.0.9", "0.0.2 0.1.0-0")
        self.check("~1.9.0", "1.9.0 1.9.99", "1.10.0-0 1.10.0 1.8.9")

    def test_caret_by_its_first_number(self):
        self.check("^1.2.3", "1.2.3 1.2.4-0 1.3.0-0 1.3.0 1.999999999.0", "1.2.3-z 1.2.2 2.0.0-0 2.0.0-a 2.0.0 0.2.3")
        self.check("^1.0.0", "1.0.0 1.0.1-0 1.9.9", "1.0.0-z 0.9.9 2.0.0-0 2.0.0")
        self.check("^1.0.3", "1.0.3 1.0.4 1.1.0", "1.0.2 2.0.0-0")
        self.check("^9.2.3-b", "9.2.3-b 9.2.3-c 9.2.3 9.3.0", "9.2.3-a 9.2.2 10.0.0-0 10.0.0")

    def test_caret_by_its_second_number(self):
        self.check("^0.2.3", "0.2.3 0.2.4-0 0.2.999999999", "0.2.3-z 0.2.2 0.3.0-0 0.3.0-a 0.3.0 1.0.0 1.2.3")
        self.check("^0.2.0", "0.2.0 0.2.1", "0.2.0-z 0.1.9 0.3.0-0")
        self.check("^0.9.3-b", "0.9.3-b 0.9.3 0.9.4", "0.9.3-a 0.10.0-0 0.10.0")

    def test_caret_by_its_third_number(self):
        self.check("^0.0.3", "0.0.3", "0.0.3-z 0.0.2 0.0.4-0 0.0.4-a 0.0.4 0.1.0 1.0.0")
        self.check("^0.0.9-b", "0.0.9-b 0.0.9-c 0.0.9", "0.0.9-a 0.0.8 0.0.10-0 0.0.10")
        self.check("^0.0.0", "0.0.0", "0.0.0-z 0.0.1-0 0.0.1 0.1.0 1.0.0")
        self.check("^0.0.0-0", "0.0.0-0 0.0.0-z 0.0.0", "0.0.1-0 0.0.1")

    def test_numbers_of_nine_digits_are_raised(self):
        self.check("~1.999999999.3", "1.999999999.3 1.999999999.999999999", "1.999999999.2 2.0.0-0 2.0.0 1.999999998.3")
        self.check("^0.999999999.3", "0.999999999.3 0.999999999.999999999", "0.999999999.2 1.0.0-0 1.0.0")
        self.check("^0.0.999999999", "0.0.999999999", "0.0.999999999-z 0.0.999999998 0.1.0-0 0.1.0 1.0.0")
        self.check("^999999999.0.0", "999999999.0.0 999999999.999999999.999999999", "999999998.999999999.0 999999999.0.0-z")
        self.check("~999999999.999999999.1", "999999999.999999999.1", "999999999.999999999.0 999999999.999999998.1")
        self.check("^99999999.0.0", "99999999.0.0 99999999.9.9", "100000000.0.0-0 100000000.0.0")
        self.check("<=" + ".".join([MOST] * 3), " ".join(IN_ORDER), "")

    def test_the_comparisons_go_by_the_order(self):
        wanted = {">=": (0, 1), ">": (1,), "<=": (-1, 0), "<": (-1,), "=": (0,), "": (0,)}
        for version in IN_ORDER:
            for limit in IN_ORDER:
                order = compare(numbers_of(version), numbers_of(limit))[0]
                for sign, fine in wanted.items():
                    if held(sign + limit, version) != [1 if order in fine else 0]:
                        self.fail((sign, limit, version))


class Several(Check):
    def test_all_of_them(self):
        self.check(">=1.0.0 <2.0.0", "1.0.0 1.9.9 2.0.0-0", "1.0.0-z 2.0.0 0.9.9")
        self.check("<2.0.0 >=1.0.0", "1.0.0 1.9.9 2.0.0-0", "1.0.0-z 2.0.0 0.9.9")
        self.check(">=1.0.0 <2.0.0 >1.5.0", "1.5.1 1.9.9", "1.5.0 1.0.0 2.0.0")
        self.check(">1.5.0 >=1.0.0 <2.0.0", "1.5.1 1.9.9", "1.5.0 1.0.0 2.0.0")
        self.check("1.0.0 2.0.0", "", "1.0.0 2.0.0 1.5.0")
        self.check("1.0.0 =1.0.0", "1.0.0", "1.0.1")
        self.check("^1.2.0 ~1.4.1", "1.4.1 1.4.9", "1.2.0 1.4.0 1.5.0-0")
        self.check("~1.4.1 ^1.2.0", "1.4.1 1.4.9", "1.2.0 1.4.0 1.5.0-0")

    def test_every_version_among_them(self):
        self.check("* 1.0.0", "1.0.0", "2.0.0")
        self.check("1.0.0 *", "1.0.0", "2.0.0")
        self.check("* *", "1.0.0 0.0.0-0", "")
        self.check("*|1.0.0", "1.0.0 2.0.0", "")
        self.check("1.0.0|*", "1.0.0 2.0.0", "")

    def test_one_of_them(self):
        self.check("1.0.0|2.0.0", "1.0.0 2.0.0", "1.5.0 0.9.9 3.0.0")
        self.check("1.0.0|2.0.0|~3.1.0", "1.0.0 2.0.0 3.1.0 3.1.9", "1.5.0 3.0.0 3.2.0-0")
        self.check("<1.0.0|>2.0.0", "0.9.9 1.0.0-z 2.0.1-0", "1.0.0 2.0.0 1.5.0")
        self.check("1.0.0|1.0.0", "1.0.0", "1.0.1")

    def test_of_one_of_them_all(self):
        self.check(">=1.0.0 <2.0.0|>=3.0.0 <4.0.0", "1.0.0 1.9.9 3.0.0 3.9.9", "0.9.9 2.0.0 2.5.0 3.0.0-a 4.0.0")
        self.check("1.0.0 2.0.0|3.0.0", "3.0.0", "1.0.0 2.0.0")
        self.check("3.0.0|1.0.0 2.0.0", "3.0.0", "1.0.0 2.0.0")
        self.check(">1.0.0 <1.5.0|2.0.0|^3.0.0 <3.1.0", "1.4.9 2.0.0 3.0.9", "1.0.0 1.5.0 2.0.1 3.1.0")
        self.check("1.0.0 *|* 2.0.0", "1.0.0 2.0.0", "3.0.0")


class NotSuch(unittest.TestCase):
    def check(self, *conditions):
        for condition in conditions:
            with self.subTest(condition=condition):
                self.assertEqual(held(condition, "1.2.3"), [-2])
                self.assertEqual(held(condition, "1.2"), [-2])

    def test_many(self):
        self.check(*NO_CONDITIONS)

    def test_empty(self):
        self.check("")
        self.assertEqual(holds([], []), [-2])

    def test_blanks_too_many(self):
        self.check(" ", " 1.2.3", "1.2.3 ", "1.2.3  1.2.3", " *", "* ", "*  *", "1.2.3   <2.0.0")
        self.check("1.2.3 |1.2.3", "1.2.3| 1.2.3", "1.2.3 | 1.2.3", " |1.2.3", "1.2.3| ")
        self.check("> 1.2.3", ">= 1.2.3", "< 1.2.3", "<= 1.2.3", "= 1.2.3", "~ 1.2.3", "^ 1.2.3", "> =1.2.3")
        self.check("1.2.3\t1.2.3", "1.2.3\n", "1.2.3\n1.2.3", "1.2.3\xa01.2.3", "1. 2.3")

    def test_empty_pieces(self):
        self.check("|", "||", "|1.2.3", "1.2.3|", "1.2.3||1.2.3", "|*", "*|", "*||*", "1.2.3|*|")

    def test_a_sign_with_nothing_behind(self):
        for sign in (">=", ">", "<=", "<", "=", "~", "^"):
            self.check(sign, "1.2.3 " + sign, sign + " 1.2.3", "1.2.3|" + sign, sign + "|1.2.3", sign + sign + "1.2.3")

    def test_a_sign_that_is_none(self):
        self.check("=>1.2.3", "=<1.2.3", "==1.2.3", "<>1.2.3", "!=1.2.3", "!1.2.3", "~>1.2.3", "^=1.2.3", "~=1.2.3")
        self.check(">==1.2.3", "<==1.2.3", "=^1.2.3", ">^1.2.3", "v1.2.3", "-1.2.3", "+1.2.3", "1.2.3>", "1.2.3=")

    def test_each_byte_in_front(self):
        for byte in range(256):
            with self.subTest(byte=byte):
                found = holds([byte, *b"1.2.3"], numbers_of("1.2.3"))
                self.assertEqual(found == [-2], byte not in b"<>=~^123456789")

    def test_each_byte_between(self):
        for byte in range(256):
            with self.subTest(byte=byte):
                found = holds([*b"1.2.3", byte, *b">1.2.4"], numbers_of("1.2.3"))
                self.assertEqual(found, {ord(" "): [0], ord("|"): [1]}.get(byte, [-2]))

    def test_every_version_with_something_beside(self):
        self.check("**", "*1.2.3", "1.2.3*", ">*", ">=*", "<*", "<=*", "=*", "~*", "^*", "*.*.*", "1.2.*", "*-a", "*,*")

    def test_one_piece_that_is_not_such(self):
        for wrong in NO_VERSIONS:
            if wrong not in ("*", "=1.2.3", "^1.2.3"):
                self.check(wrong, "* " + wrong, wrong + " *", "*|" + wrong, wrong + "|*", ">=" + wrong, "1.2.3|^" + wrong)

    def test_no_version(self):
        for wrong in NO_VERSIONS:
            for condition in ("*", "1.2.3", "^1.2.3|*", "<0.0.0-0"):
                with self.subTest(wrong=wrong, condition=condition):
                    self.assertEqual(held(condition, wrong), [-2])

    def test_both_are_not_such(self):
        for wrong in NO_VERSIONS:
            with self.subTest(wrong=wrong):
                self.assertEqual(held("", wrong), [-2])
                self.assertEqual(held("> " + wrong, wrong), [-2])


class Largest(Check):
    def check_longest(self, condition, inside, outside):
        self.assertEqual(len(condition), 256)
        self.check(condition, inside, outside)

    def test_many_conditions(self):
        self.check_longest("1.0.0|" * 41 + ">=2.0.0-aa", "1.0.0 2.0.0-aa 2.0.0", "1.0.1 2.0.0-a")
        self.check_longest(">0.0.0 " * 35 + "<=2.0.0-bcd", "0.0.1 2.0.0-bcd", "0.0.0 2.0.0-bce 2.0.0")
        self.check_longest("* " * 125 + "<2.0.0", "1.9.9 2.0.0-z", "2.0.0")
        self.check_longest("*|" * 125 + "<2.0.0", "1.9.9 2.0.0", "")
        self.check_longest("1.0.0 *|" * 31 + ">2.0.0-b", "1.0.0 2.0.0-c", "1.0.1 2.0.0-b")

    def test_one_long_word(self):
        long_word = "1.2.3-" + "x" * 250
        self.check_longest("=" + long_word[:-1], long_word[:-1], long_word + " 1.2.3-x 1.2.3")
        self.check_longest(">" + long_word[:-1], long_word + " 1.2.3", long_word[:-1] + " 1.2.3-x")
        self.check_longest("^" + long_word[:-1], long_word + " 1.2.3 1.9.9", long_word[:-2] + " 2.0.0-0")
        self.check_longest(long_word, long_word, long_word[:-1] + "y 1.2.3")

    def test_many_words(self):
        words = "1.2.3-" + "0." * 124
        self.check_longest("~" + words + "a", words + "a " + words + "ab 1.2.3", words + "99 1.3.0-0 1.2.3-0")
        self.check_longest("<" + words + "a", words + "99 " + words + "A", words + "a " + words + "ab")

    def test_numbers_of_nine_digits(self):
        most = ".".join([MOST] * 3)
        self.check_longest("^" + most + "-" + "z" * 225, most + " " + most + "-" + "z" * 226, most + "-z " + MOST + ".0.0")

    def test_the_longest_that_are_not_such(self):
        for text in ("*" * 256, "|" * 256, " " * 256, "^" * 256, "*|" * 128, "* " * 128, "1" * 256, "\xff" * 256,
                     "*|" * 126 + "** *", "* " * 126 + ">=>=", "=1.2.3-" + "1" * 249, "*|" * 125 + "1.2.03"):
            with self.subTest(text=text):
                self.assertEqual(len(text), 256)
                self.assertEqual(held(text, "1.2.3"), [-2])
                self.assertEqual(held("*", text), [-2])


class Lists(unittest.TestCase):
    def test_a_list_of_one_whole_number_is_given_back(self):
        for condition, version in (("*", "1.2.3"), ("<1.2.3", "1.2.3"), ("x", "1.2.3"), ("*", "x"), ("", "")):
            given = held(condition, version)
            self.assertIs(type(given), list)
            self.assertEqual([type(number) for number in given], [int])

    def test_what_is_handed_in_stays_the_same(self):
        for condition, version in ((">=1.2.3-a <2.0.0|*", "1.2.3-a.b"), ("^1.2.3 x", "1.2.3"), ("*", "1.2.x"), ("", "")):
            left, right = numbers_of(condition), numbers_of(version)
            holds(left, right)
            self.assertEqual((left, right), (numbers_of(condition), numbers_of(version)))

    def test_one_list_as_both(self):
        both = numbers_of("1.2.3")
        self.assertEqual(holds(both, both), [1])
        self.assertEqual(both, numbers_of("1.2.3"))

    def test_nothing_is_kept(self):
        self.assertEqual([held("1.2.3", "1.2.3"), held("x", "1.2.3"), held("1.2.4", "1.2.3")], [[1], [-2], [0]])
        given = held("1.2.3", "1.2.3")
        given.append(7)
        self.assertEqual(held("1.2.3", "1.2.3"), [1])

    def test_a_session_takes_the_same_versions(self):
        for condition in ("*", "~1.0.1", "^1.0.1-a", "^0.0.9", "<1.0.1 >=0.9.0|>1.10.0", "1.0.1-a.b|2.0.0"):
            for version in IN_ORDER:
                with self.subTest(condition=condition, version=version):
                    self.assertEqual(held(condition, version), [1 if is_taken(condition, version) else 0])


if __name__ == "__main__":
    unittest.main()
