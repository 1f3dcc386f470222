import unittest

from tests.calls import CHOOSE, add, ask, chosen, last, run, want
from tests.texts import NO_VERSIONS, VERSIONS


class Add(unittest.TestCase):
    def test_versions_are_numbered_as_they_come(self):
        given = run(add("a", "2.0.0"), add("a", "1.0.0"), add("b", "5.0.0"), add("a", "3.0.0"), add("b", "4.0.0"))
        self.assertEqual(given, [[0], [1], [0], [2], [1]])

    def test_packages_are_numbered_as_they_come(self):
        calls = [add("z", "1.0.0"), add("a", "1.0.0"), add("a", "2.0.0"), add("m", "1.0.0")]
        self.assertEqual(last(*calls, want("a", "*"), CHOOSE), chosen(-1, 1, -1))
        self.assertEqual(last(*calls, want("z", "*"), want("m", "*"), CHOOSE), chosen(0, -1, 0))

    def test_a_new_version_asks_nothing(self):
        calls = [add("a", "1.0.0"), add("b", "1.0.0"), ask("a", "1.0.0", "b", "*"), add("a", "2.0.0")]
        self.assertEqual(last(*calls, want("a", "2.0.0"), CHOOSE), chosen(1, -1))
        self.assertEqual(last(*calls, want("a", "1.0.0"), CHOOSE), chosen(0, 0))

    def test_names(self):
        for name in ("a", "z", "0", "9", "-", "a-0", "--", "x" * 32, "azbycx-0189"):
            with self.subTest(name=name):
                self.assertEqual(last(add(name, "1.0.0")), 0)

    def test_no_names(self):
        wrong = ["", "x" * 33, "x" * 256, "A", "Z", "aB", "a b", " a", "a_", "a.b", "\xe9", "\x00", "a\n", "\xff"]
        for name in wrong + ["`", "{", "/", ":", ",", ".", "@", "["]:
            with self.subTest(name=name):
                self.assertEqual(last(add(name, "1.0.0")), -2)

    def test_each_byte_as_a_name(self):
        fine = b"abcdefghijklmnopqrstuvwxyz0123456789-"
        for byte in range(256):
            with self.subTest(byte=byte):
                self.assertEqual(last(add([byte], "1.0.0")), 0 if byte in fine else -2)

    def test_names_differ_by_every_byte(self):
        self.assertEqual(run(add("a", "1.0.0"), add("a-", "1.0.0"), add("aa", "1.0.0")), [[0], [0], [0]])

    def test_versions(self):
        for version in VERSIONS:
            with self.subTest(version=version):
                self.assertEqual(last(add("a", version)), 0)

    def test_no_versions(self):
        for version in NO_VERSIONS:
            with self.subTest(version=version):
                self.assertEqual(last(add("a", version)), -2)

    def test_each_byte_as_a_word(self):
        fine = b"abcdefghijklmnopqrstuvwxyzABCDEFGHIJKLMNOPQRSTUVWXYZ0123456789-"
        for byte in range(256):
            with self.subTest(byte=byte):
                self.assertEqual(last(add("a", list(b"1.2.3-") + [byte])), 0 if byte in fine else -2)

    def test_a_version_that_is_there(self):
        given = run(add("a", "1.0.0"), add("a", "1.0.0-x"), add("a", "1.0.0"), add("a", "1.0.0-x"), add("a", "1.0.0-X"))
        self.assertEqual(given, [[0], [1], [-1], [-1], [2]])

    def test_each_way_versions_differ(self):
        versions = ["1.2.3", "0.2.3", "1.0.3", "1.2.0", "1.2.3-0", "1.2.3-0.0", "1.2.3-0a", "1.2.3-a0", "1.2.3-1"]
        given = run(*[add("a", version) for version in versions])
        self.assertEqual(given, [[number] for number in range(len(versions))])


class AddRoom(unittest.TestCase):
    def test_thirty_two_packages(self):
        calls = [add("p" + str(k), "1.0.0") for k in range(32)]
        self.assertEqual(run(*calls), [[0]] * 32)
        self.assertEqual(last(*calls, add("more", "1.0.0")), -3)

    def test_a_full_session_still_takes_versions(self):
        calls = [add("p" + str(k), "1.0.0") for k in range(32)]
        given = run(*calls, add("more", "1.0.0"), add("p31", "2.0.0"), add("p0", "2.0.0"))
        self.assertEqual(given[32:], [[-3], [1], [1]])

    def test_thirty_two_versions(self):
        calls = [add("a", "1.0." + str(k)) for k in range(32)]
        self.assertEqual(run(*calls), [[k] for k in range(32)])
        given = run(*calls, add("a", "2.0.0"), add("b", "2.0.0"), add("a", "2.0.0"))
        self.assertEqual(given[32:], [[-3], [0], [-3]])

    def test_a_refused_package_is_not_there(self):
        calls = [add("p" + str(k), "1.0.0") for k in range(32)]
        self.assertEqual(run(*calls, add("more", "1.0.0"), want("more", "*"))[32:], [[-3], [-1]])

    def test_not_such_comes_first(self):
        calls = [add("p" + str(k), "1.0.0") for k in range(32)]
        self.assertEqual(run(*calls, add("More", "1.0.0"), add("more", "1.0"))[32:], [[-2], [-2]])
        calls = [add("a", "1.0." + str(k)) for k in range(32)]
        self.assertEqual(last(*calls, add("a", "01.0.0")), -2)
        self.assertEqual(last(add("A", "x")), -2)

    def test_there_already_comes_before_no_room(self):
        calls = [add("a", "1.0." + str(k)) for k in range(32)]
        self.assertEqual(last(*calls, add("a", "1.0.31")), -1)
        calls = [add("p" + str(k), "1.0.0") for k in range(32)]
        self.assertEqual(last(*calls, add("p7", "1.0.0")), -1)


class AddRefused(unittest.TestCase):
    def test_nothing_changes(self):
        refused = [add("A", "1.0.0"), add("b", "1.0"), add("a", "1.0.0"), add("a", "x")]
        given = run(add("a", "1.0.0"), *refused, add("a", "2.0.0"), add("c", "1.0.0"), want("c", "*"), CHOOSE)
        self.assertEqual(given[1:5], [[-2], [-2], [-1], [-2]])
        self.assertEqual(given[5:], [[1], [0], [0], chosen(-1, 0)])

    def test_the_asks_of_a_version_stay(self):
        calls = [add("a", "1.0.0"), add("b", "1.0.0"), ask("a", "1.0.0", "b", "*"), add("a", "1.0.0")]
        self.assertEqual(last(*calls, want("a", "*"), CHOOSE), chosen(0, 0))

    def test_no_package_comes_of_a_wrong_version(self):
        self.assertEqual(run(add("a", "1"), want("a", "*")), [[-2], [-1]])


if __name__ == "__main__":
    unittest.main()
