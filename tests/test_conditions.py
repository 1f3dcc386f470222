import unittest

from tests.calls import CHOOSE, add, ask, chosen, is_taken, last, want
from tests.texts import IN_ORDER, NO_CONDITIONS


class Order(unittest.TestCase):
    def test_every_pair(self):
        for low in range(len(IN_ORDER)):
            for high in range(len(IN_ORDER)):
                found = [is_taken(sign + IN_ORDER[high], IN_ORDER[low]) for sign in ("<", "<=", "=", "", ">=", ">")]
                expected = [low < high, low <= high, low == high, low == high, low >= high, low > high]
                if found != expected:
                    self.fail((IN_ORDER[low], IN_ORDER[high], found))


class OneCondition(unittest.TestCase):
    def check(self, condition, inside, outside):
        for version in inside:
            with self.subTest(condition=condition, version=version):
                self.assertTrue(is_taken(condition, version))
        for version in outside:
            with self.subTest(condition=condition, version=version):
                self.assertFalse(is_taken(condition, version))

    def test_every_version(self):
        self.check("*", IN_ORDER, ())

    def test_comparisons(self):
        self.check(">=1.2.3", ("1.2.3", "1.2.4-0", "2.0.0"), ("1.2.3-z", "1.2.2"))
        self.check(">1.2.3", ("1.2.4-0", "1.2.4"), ("1.2.3", "1.2.3-z", "1.2.2"))
        self.check("<=1.2.3", ("1.2.3", "1.2.3-z", "0.0.0"), ("1.2.4-0", "1.2.4"))
        self.check("<1.2.3", ("1.2.3-z", "1.2.2"), ("1.2.3", "1.2.4-0"))
        self.check("=1.2.3", ("1.2.3",), ("1.2.3-z", "1.2.4-0", "1.2.2"))
        self.check("1.2.3", ("1.2.3",), ("1.2.3-z", "1.2.4-0", "1.2.2"))
        self.check("=1.2.3-a.0", ("1.2.3-a.0",), ("1.2.3-a", "1.2.3-a.0.0", "1.2.3-A.0", "1.2.3"))

    def test_tilde(self):
        self.check("~1.2.3", ("1.2.3", "1.2.4-0", "1.2.99", "1.2.999999999"),
                   ("1.2.3-z", "1.2.2", "1.3.0-0", "1.3.0-a", "1.3.0", "2.2.3", "0.2.3"))
        self.check("~0.0.0", ("0.0.0", "0.0.1-0", "0.0.7"), ("0.0.0-a", "0.1.0-0", "0.1.0"))
        self.check("~1.2.3-b", ("1.2.3-b", "1.2.3-c", "1.2.3", "1.2.9"), ("1.2.3-a", "1.3.0-0"))
        self.check("~1.9.3", ("1.9.3",), ("1.10.0-0", "1.10.0"))
        self.check("~1.999999999.0", ("1.999999999.0", "1.999999999.8"), ("2.0.0-0", "2.0.0", "1.0.0"))

    def test_caret_with_a_first_number(self):
        self.check("^1.2.3", ("1.2.3", "1.2.4-0", "1.3.0-0", "1.99.0", "1.999999999.999999999"),
                   ("1.2.3-z", "1.2.2", "2.0.0-0", "2.0.0-a", "2.0.0", "0.2.3"))
        self.check("^1.0.0", ("1.0.0", "1.5.0"), ("1.0.0-a", "2.0.0-0"))
        self.check("^9.0.1-b", ("9.0.1-b", "9.0.1", "9.1.0"), ("9.0.1-a", "9.0.0", "10.0.0-0"))
        self.check("^999999999.0.0", ("999999999.0.0", "999999999.999999999.999999999"), ("999999998.0.0",))

    def test_caret_with_a_second_number(self):
        self.check("^0.2.3", ("0.2.3", "0.2.4-0", "0.2.99"), ("0.2.3-z", "0.2.2", "0.3.0-0", "0.3.0", "1.0.0", "1.2.3"))
        self.check("^0.2.0", ("0.2.0", "0.2.1"), ("0.3.0-0", "0.2.0-z"))

    def test_caret_with_a_third_number_or_none(self):
        self.check("^0.0.3", ("0.0.3",), ("0.0.3-z", "0.0.2", "0.0.4-0", "0.0.4", "0.1.0", "1.0.0"))
        self.check("^0.0.3-b", ("0.0.3-b", "0.0.3-c", "0.0.3"), ("0.0.3-a", "0.0.4-0"))
        self.check("^0.0.0", ("0.0.0",), ("0.0.0-a", "0.0.1-0", "0.0.1"))

    def test_all_of_several(self):
        self.check(">=1.0.0 <2.0.0", ("1.0.0", "1.9.9", "2.0.0-0"), ("1.0.0-z", "2.0.0", "0.1.0"))
        self.check(">=1.0.0 <2.0.0 >1.5.0", ("1.5.1",), ("1.5.0", "1.0.0", "2.0.0"))
        self.check("1.0.0 2.0.0", (), ("1.0.0", "2.0.0", "1.5.0"))
        self.check("* 1.0.0", ("1.0.0",), ("2.0.0",))
        self.check("1.0.0 *", ("1.0.0",), ("2.0.0",))
        self.check("^1.2.0 ~1.4.1", ("1.4.1", "1.4.9"), ("1.4.0", "1.5.0", "1.2.0"))

    def test_one_of_several(self):
        self.check("1.0.0|2.0.0", ("1.0.0", "2.0.0"), ("1.5.0", "3.0.0"))
        self.check("1.0.0|2.0.0|3.0.0", ("1.0.0", "2.0.0", "3.0.0"), ("1.5.0", "4.0.0"))
        self.check(">=1.0.0 <2.0.0|>=3.0.0 <4.0.0", ("1.0.0", "3.9.9"), ("2.5.0", "4.0.0", "0.9.0"))
        self.check("1.0.0 2.0.0|3.0.0", ("3.0.0",), ("1.0.0", "2.0.0"))
        self.check("3.0.0|1.0.0 2.0.0", ("3.0.0",), ("1.0.0", "2.0.0"))
        self.check("*|1.0.0 2.0.0", ("9.0.0", "1.0.0"), ())

    def test_as_long_as_a_text_may_be(self):
        condition = "|".join(["1.0.%d" % k for k in range(10, 45)]) + "|1.0.5"
        self.assertLessEqual(len(condition), 256)
        self.check(condition, ("1.0.5", "1.0.10", "1.0.44"), ("1.0.6", "1.0.45"))
        condition = "=1.0.0-" + "x" * 249
        self.check(condition, (condition[1:],), ("1.0.0-x", "1.0.0"))


class NoCondition(unittest.TestCase):
    def test_wanted(self):
        for condition in NO_CONDITIONS:
            with self.subTest(condition=condition):
                self.assertEqual(last(add("p", "1.2.3"), want("p", condition)), -2)

    def test_asked(self):
        for condition in NO_CONDITIONS:
            with self.subTest(condition=condition):
                self.assertEqual(last(add("p", "1.2.3"), ask("p", "1.2.3", "p", condition)), -2)

    def test_each_byte_by_itself(self):
        for byte in range(256):
            with self.subTest(byte=byte):
                self.assertEqual(last(add("p", "1.2.3"), want("p", [byte])), 0 if byte == ord("*") else -2)

    def test_each_byte_in_front(self):
        for byte in range(256):
            fine = byte in b"<>=~^123456789"
            with self.subTest(byte=byte):
                found = last(add("p", "1.2.3"), want("p", [byte] + list(b"1.2.3")))
                self.assertEqual(found, 0 if fine else -2)


class Asked(unittest.TestCase):
    def test_conditions_of_asks_are_kept_alike(self):
        for condition, number in (("*", 3), ("<2.0.0", 2), ("<=1.0.0", 0), ("~1.0.0", 0), ("^1.0.0", 2), ("1.1.0", 2),
                                  (">1.0.0 <1.1.0", 1), ("1.0.0|1.1.0-a", 1), (">2.0.0", None)):
            with self.subTest(condition=condition):
                calls = [add("a", "1.0.0"), add("b", "1.0.0"), add("b", "1.1.0-a"), add("b", "1.1.0"),
                         add("b", "2.0.0"), ask("a", "1.0.0", "b", condition), want("a", "*")]
                expected = -1 if number is None else chosen(0, number)
                self.assertEqual(last(*calls, CHOOSE), expected)


if __name__ == "__main__":
    unittest.main()
