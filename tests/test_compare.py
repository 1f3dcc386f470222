import unittest

from versionpick.versions import compare

from tests.calls import numbers_of
from tests.texts import IN_ORDER, NO_VERSIONS, VERSIONS

WORD_BYTES = b"abcdefghijklmnopqrstuvwxyzABCDEFGHIJKLMNOPQRSTUVWXYZ0123456789-"


def compared(one, two):
    return compare(numbers_of(one), numbers_of(two))


class Order(unittest.TestCase):
    def check(self, *pairs):
        """Of each pair the first comes before the second."""
        for low, high in pairs:
            with self.subTest(low=low, high=high):
                self.assertEqual(compared(low, high), [-1])
                self.assertEqual(compared(high, low), [1])

    def test_by_the_first_number_that_differs(self):
        self.check(("1.2.3", "2.2.3"), ("1.2.3", "1.3.3"), ("1.2.3", "1.2.4"))
        self.check(("1.9.9", "2.0.0"), ("1.2.9", "1.3.0"), ("0.9.9", "1.0.0"), ("0.0.9", "0.1.0"))
        self.check(("1.9.9", "2.0.0-0"), ("1.2.9", "1.3.0-0"), ("1.2.3", "1.2.4-0"), ("1.2.3-z", "1.2.4-a"))

    def test_numbers_by_size(self):
        self.check(("9.0.0", "10.0.0"), ("0.9.0", "0.10.0"), ("0.0.9", "0.0.10"), ("2.0.0", "10.0.0"))
        self.check(("99.0.0", "100.0.0"), ("0.0.99999999", "0.0.100000000"), ("0.999999998.0", "0.999999999.0"))

    def test_one_that_is_not_done_comes_first(self):
        self.check(("1.2.3-0", "1.2.3"), ("1.2.3-z", "1.2.3"), ("1.2.3-z.z.z", "1.2.3"), ("1.2.3--", "1.2.3"))
        self.check(("0.0.0-999999999", "0.0.0"), ("1.2.3-zzzz", "1.2.3"))

    def test_a_word_that_is_a_number_comes_before_another_kind(self):
        self.check(("1.2.3-9", "1.2.3-a"), ("1.2.3-999999999", "1.2.3-A"), ("1.2.3-999999999", "1.2.3--"))
        self.check(("1.2.3-5", "1.2.3-0a"), ("1.2.3-9", "1.2.3-1-"), ("1.2.3-2", "1.2.3-1234567890a"))
        self.check(("1.2.3-a.9", "1.2.3-a.0-"), ("1.2.3-1.z", "1.2.3-a.0"), ("1.2.3-9.9", "1.2.3--"))

    def test_words_that_are_numbers_by_size(self):
        self.check(("1.2.3-9", "1.2.3-10"), ("1.2.3-0", "1.2.3-1"), ("1.2.3-a.9", "1.2.3-a.10"))
        self.check(("1.2.3-99999999", "1.2.3-100000000"), ("1.2.3-2.9", "1.2.3-10.0"))

    def test_other_words_byte_by_byte(self):
        self.check(("1.2.3-a", "1.2.3-b"), ("1.2.3-Z", "1.2.3-a"), ("1.2.3-ab", "1.2.3-b"), ("1.2.3-aZ", "1.2.3-aa"))
        self.check(("1.2.3--", "1.2.3-0a"), ("1.2.3-9a", "1.2.3-A"), ("1.2.3-a-", "1.2.3-a0"), ("1.2.3-a9", "1.2.3-aA"))
        self.check(("1.2.3-a10", "1.2.3-a9"), ("1.2.3-00a", "1.2.3-0a"), ("1.2.3-10a", "1.2.3-9a"))

    def test_every_byte_of_a_word_in_its_place(self):
        signs = sorted(WORD_BYTES)
        for low, high in zip(signs, signs[1:]):
            self.check(([*b"1.2.3-x", low], [*b"1.2.3-x", high]))

    def test_a_word_that_is_over_comes_first(self):
        self.check(("1.2.3-a", "1.2.3-aa"), ("1.2.3-a", "1.2.3-a-"), ("1.2.3-a", "1.2.3-a0"), ("1.2.3--", "1.2.3---"))
        self.check(("1.2.3-a.z", "1.2.3-aa"), ("1.2.3-a.z", "1.2.3-a-.b"), ("1.2.3-0.a", "1.2.3-0.aa"))

    def test_one_whose_words_are_over_comes_first(self):
        self.check(("1.2.3-a", "1.2.3-a.0"), ("1.2.3-a", "1.2.3-a.-"), ("1.2.3-0", "1.2.3-0.0"))
        self.check(("1.2.3-a.b", "1.2.3-a.b.c"), ("1.2.3-a.b", "1.2.3-a.b.0"), ("1.2.3-a.b.c", "1.2.3-a.c"))

    def test_the_first_word_that_differs(self):
        self.check(("1.2.3-a.z", "1.2.3-b.a"), ("1.2.3-a.b.9", "1.2.3-a.c.1"), ("1.2.3-1.9.9", "1.2.3-2"))

    def test_every_pair(self):
        for one, here in enumerate(IN_ORDER):
            for two, there in enumerate(IN_ORDER):
                if compared(here, there) != [(one > two) - (one < two)]:
                    self.fail((here, there))


class Same(unittest.TestCase):
    def test_the_same_version(self):
        for version in VERSIONS + IN_ORDER:
            with self.subTest(version=version):
                self.assertEqual(compared(version, version), [0])

    def test_the_very_same_list(self):
        version = numbers_of("1.2.3-a.4")
        self.assertEqual(compare(version, version), [0])

    def test_small_and_large_letters_are_not_the_same(self):
        self.assertEqual(compared("1.2.3-a", "1.2.3-A"), [1])


class NoVersion(unittest.TestCase):
    def check(self, *texts):
        for text in texts:
            with self.subTest(text=text):
                self.assertEqual(compared(text, "1.2.3"), [-2])
                self.assertEqual(compared("1.2.3", text), [-2])
                self.assertEqual(compared(text, text), [-2])
                self.assertEqual(compared(text, "x"), [-2])
                self.assertEqual(compared("", text), [-2])

    def test_many(self):
        self.check(*NO_VERSIONS)

    def test_empty(self):
        self.check("")
        self.assertEqual(compare([], []), [-2])

    def test_too_few_or_too_many_numbers(self):
        self.check("1", "1.2", "1.2.3.4", "1.2-a", "1-a", "1.2.3.4-a", "-a", "1.2.3.4.5.6")

    def test_numbers_that_are_not_such(self):
        self.check("01.2.3", "1.02.3", "1.2.03", "00.2.3", "1.00.3", "1.2.00", "01.2.3-a", "000000001.2.3")
        self.check(".2.3", "1..3", "1.2.", "..", "1.2.-a", ".2.3-a", "1..3-a")
        self.check("1234567890.2.3", "1.1234567890.3", "1.2.1234567890", "1.2.0000000000", "1.2.1234567890-a")
        self.check("a.2.3", "1.b.3", "1.2.c", "1.2.3c", "1a.2.3", "+1.2.3", "-1.2.3", "1.-2.3", "1.2.-3", "1.2_0.3")

    def test_empty_words(self):
        self.check("1.2.3-", "1.2.3-.", "1.2.3-a.", "1.2.3-.a", "1.2.3-a..b", "1.2.3-0.", "1.2.3-.0", "1.2.3-..")

    def test_words_of_digits_alone_that_are_no_number(self):
        self.check("1.2.3-00", "1.2.3-01", "1.2.3-a.01", "1.2.3-01.a", "1.2.3-1234567890", "1.2.3-a.1234567890.b")

    def test_each_byte_in_a_word(self):
        for byte in range(256):
            for text in ([*b"1.2.3-", byte], [*b"1.2.3-a", byte, *b"b"], [*b"1.2.3-a.", byte, *b".7"]):
                fine = byte in WORD_BYTES or (byte == ord(".") and text[-1] == ord("b"))
                with self.subTest(text=text):
                    self.assertEqual(compare(text, text), [0] if fine else [-2])

    def test_each_byte_in_a_number(self):
        for byte in range(256):
            for text in ([byte, *b".2.3"], [*b"1.", byte, *b".3"], [*b"1.2.", byte], [*b"1.2.", byte, *b"-a"]):
                with self.subTest(text=text):
                    self.assertEqual(compare(text, text), [0] if byte in b"0123456789" else [-2])

    def test_each_byte_around_a_version(self):
        for byte in range(256):
            with self.subTest(byte=byte):
                front, behind = [byte, *b"1.2.3"], [*b"1.2.3", byte]
                self.assertEqual(compare(front, front), [0] if byte in b"123456789" else [-2])
                self.assertEqual(compare(behind, behind), [0] if byte in b"0123456789" else [-2])

    def test_each_byte_between(self):
        for byte in range(256):
            with self.subTest(byte=byte):
                dot, hyphen = [*b"1", byte, *b"2.3"], [*b"1.2.3", byte, *b"4a"]
                self.assertEqual(compare(dot, dot), [0] if byte == ord(".") else [-2])
                self.assertEqual(compare(hyphen, hyphen), [0] if byte == ord("-") else [-2])


class Largest(unittest.TestCase):
    def check(self, low, high):
        self.assertEqual((len(low), len(high)), (256, 256))
        self.assertEqual([compared(low, high), compared(high, low), compared(low, low)], [[-1], [1], [0]])

    def test_many_words(self):
        front = "1.2.3-" + "0." * 124
        self.check(front + "10", front + "1a")
        self.check(front + "ab", front + "ac")
        self.check("1.2.3-" + "a." * 124 + "aa", "1.2.3-" + "a." * 123 + "b.aa")
        self.assertEqual(compared(front + "10", front[:-1]), [1])

    def test_one_long_word(self):
        front = "1.2.3-" + "x" * 249
        self.check(front + "y", front + "z")
        self.check("1.2.3-" + "0" * 249 + "a", "1.2.3-" + "1" * 249 + "a")
        self.check("1.2.3-" + "-" * 250, "1.2.3-" + "9" * 249 + "-")
        self.assertEqual(compared(front, front + "y"), [-1])
        self.assertEqual(compared(front + "y", "1.2.3"), [-1])

    def test_the_last_byte_decides_whether_it_is_one(self):
        for text in ("1.2.3-" + "0." * 125, "1.2.3-" + "x" * 249 + "_", "1.2.3-" + "1" * 250, "1" * 256, "." * 256,
                     "-" * 256, "1.2.3-" + "0." * 123 + "a.01", "\xff" * 256, "\x00" * 256, "1." * 128):
            with self.subTest(text=text):
                self.assertEqual(len(text), 256)
                self.assertEqual(compared(text, "1.2.3"), [-2])
                self.assertEqual(compared("1.2.3", text), [-2])


class Lists(unittest.TestCase):
    def test_a_list_of_one_whole_number_is_given_back(self):
        for one, two in (("1.2.3", "1.2.4"), ("1.2.3", "1.2.3"), ("1.2.4", "1.2.3"), ("x", "1.2.3"), ("", "")):
            given = compared(one, two)
            self.assertIs(type(given), list)
            self.assertEqual([type(number) for number in given], [int])

    def test_what_is_handed_in_stays_the_same(self):
        for one, two in (("1.2.3-a.b", "1.2.3-a.c"), ("1.2.3", "1.2.3"), ("1.2.x", "1.2.3-a"), ("1.2.3-a", "")):
            left, right = numbers_of(one), numbers_of(two)
            compare(left, right)
            self.assertEqual((left, right), (numbers_of(one), numbers_of(two)))

    def test_nothing_is_kept(self):
        self.assertEqual(compared("1.2.3", "1.2.4"), [-1])
        self.assertEqual(compared("x", "1.2.4"), [-2])
        given = compared("1.2.3", "1.2.4")
        given.append(7)
        self.assertEqual(compared("1.2.3", "1.2.4"), [-1])


if __name__ == "__main__":
    unittest.main()
