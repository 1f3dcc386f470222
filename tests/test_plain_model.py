"""The program against a second one, written another way from the same words."""

import itertools
import random
import re
import unittest

from versionpick.packs import answers
from versionpick.versions import compare, holds

from tests.calls import BEGIN, CHOOSE, add, ask, joined, numbers_of, want

NUMBER = "(?:0|[1-9][0-9]{0,8})"
WORD = "(?:%s|[0-9]*[A-Za-z-][0-9A-Za-z-]*)" % NUMBER
VERSION = re.compile(r"(%s)\.(%s)\.(%s)(?:-(%s(?:\.%s)*))?" % (NUMBER, NUMBER, NUMBER, WORD, WORD))
NAMES = ("a", "b", "c", "d", "e")
OFTEN = ("0.0.1", "0.1.0", "1.0.0", "1.0.0-a", "1.1.0", "1.0.1", "2.0.0-0", "2.0.0", "2.0.0-a.1", "2.0.0-a.10")
WRONG = ("", "1.0", "01.0.0", "1.0.0-", "1.0.0-01", "x", "1.0.0-a..b")
PUT = ("", ".", "-", "0", "1", "9", "a", "Z", "_", " ", "|", "*", "<", ">", "=", "~", "^", "\x00", "\xff", "123456789")


def compared(one, two):
    """-1, 0, 1 for the order of two versions; None if one isn't such."""
    left, right = VERSION.fullmatch(one), VERSION.fullmatch(two)
    if not left or not right:
        return None
    for place in (1, 2, 3):
        if left[place] != right[place]:
            return -1 if int(left[place]) < int(right[place]) else 1
    if left[4] is None or right[4] is None:
        return (left[4] is None) - (right[4] is None)
    for here, there in itertools.zip_longest(left[4].split("."), right[4].split(".")):
        if here != there:
            return -1 if comes_first(here, there) else 1
    return 0


def comes_first(word, other):
    if word is None or other is None:
        return word is None
    if word.isdigit() != other.isdigit():
        return word.isdigit()
    return int(word) < int(other) if word.isdigit() else word < other


def one_holds(condition, version):
    if condition == "*":
        return True
    sign = re.match("[<>]=|[<>=~^]|", condition)[0]
    limit = condition[len(sign):]
    found = compared(version, limit)
    if found is None:
        return None
    if sign in ("~", "^"):
        numbers = [int(number) for number in VERSION.fullmatch(limit).group(1, 2, 3)]
        place = 1 if sign == "~" else min([k for k in range(3) if numbers[k]], default=2)
        end = (numbers[:place] + [numbers[place] + 1] + [0, 0])[:3]
        # No version with the numbers of the end comes before its word 0: so the numbers alone decide.
        return found >= 0 and [int(number) for number in VERSION.fullmatch(version).group(1, 2, 3)] < end
    wanted = {">=": (0, 1), ">": (1,), "<=": (-1, 0), "<": (-1,), "=": (0,), "": (0,)}
    return found in wanted[sign]


def condition_holds(condition, version):
    groups = [[one_holds(one, version) for one in group.split(" ")] for group in condition.split("|")]
    if any(None in group for group in groups):
        return None
    return any(all(group) for group in groups)


class Model:
    def __init__(self):
        self.packages = {}
        self.wants = []

    def add(self, name, version):
        if not re.fullmatch("[a-z0-9-]{1,32}", name) or not VERSION.fullmatch(version):
            return -2
        versions = self.packages.get(name, {})
        if version in versions:
            return -1
        if len(versions) == 32 or (not versions and len(self.packages) == 32):
            return -3
        self.packages.setdefault(name, versions)[version] = []
        return len(versions) - 1

    def ask(self, name, version, on, condition):
        if not VERSION.fullmatch(version) or condition_holds(condition, "1.0.0") is None:
            return -2
        asks = self.packages.get(name, {}).get(version)
        return -1 if asks is None else self.put(asks, on, condition)

    def want(self, on, condition):
        return -2 if condition_holds(condition, "1.0.0") is None else self.put(self.wants, on, condition)

    def put(self, asks, on, condition):
        if on not in self.packages:
            return -1
        if len(asks) == 16:
            return -3
        asks.append((on, condition))
        return 0

    def choices(self):
        rows = [[None] + list(versions) for versions in self.packages.values()]
        for row in itertools.product(*rows):
            yield {name: version for name, version in zip(self.packages, row) if version is not None}

    def is_right(self, choice):
        asks = self.wants + [one for name in choice for one in self.packages[name][choice[name]]]
        if not all(on in choice and condition_holds(condition, choice[on]) for on, condition in asks):
            return False
        so = {on for on, condition in self.wants}
        for turn in choice:
            so = so | {on for name in so for on, condition in self.packages[name][choice[name]]}
        return set(choice) == so

    def is_better(self, one, two):
        for name in self.packages:
            if one.get(name) != two.get(name):
                if name not in one or name not in two:
                    return name not in one
                return compared(one[name], two[name]) > 0
        return False

    def choose(self):
        best = None
        for choice in self.choices():
            if self.is_right(choice) and (best is None or self.is_better(choice, best)):
                best = choice
        if best is None:
            return [-1]
        numbers = [list(self.packages[name]).index(best[name]) if name in best else -1 for name in self.packages]
        return [len(best)] + (numbers + [-1] * 32)[:32]

    def count(self):
        product = 1
        for versions in self.packages.values():
            product = product * (len(versions) + 1)
        return product


def some_version(chance):
    if chance.random() < 0.03:
        return chance.choice(WRONG)
    if chance.random() < 0.7:
        return chance.choice(OFTEN)
    numbers = ".".join(chance.choice(("0", "0", "1", "2", "2", "999999999")) for turn in range(3))
    words = ".".join(chance.choice(("0", "1", "2", "10", "a", "b", "A", "-", "0a")) for turn in range(2))
    return numbers + chance.choice(("", "-" + words))


def some_condition(chance):
    signs = (">=", ">=", ">", "<=", "<", "<", "=", "", "~", "^", "^")
    ones = [chance.choice(signs) + some_version(chance) for turn in range(3)]
    form = chance.choice(("%s", "%s", "%s", "*", "%s %s", "%s|%s", "%s %s|%s", "*|%s", "%s| %s", "*"))
    return form % tuple(ones[:form.count("%s")])


def nearly(chance, text, often):
    """The text with a few bytes changed, so that a single byte decides whether it is still such."""
    while chance.random() < often:
        place = chance.randrange(len(text) + 1)
        put = chance.choice(PUT)
        text = text[:place] + put + text[place + chance.randrange(2):]
    return text


def some_session(chance):
    """The calls, and what the model answers."""
    model, calls, expected = Model(), [], []
    while len(calls) < 150:
        kind = chance.choices(("add", "ask", "want", "choose", "begin"), (30, 25, 8, 12, 1))[0]
        row = [chance.choice(NAMES), some_version(chance), chance.choice(NAMES), some_condition(chance)]
        if kind == "add" and (model.count() <= 130 or row[1] in model.packages.get(row[0], ())):
            calls, given = calls + [add(*row[:2])], [model.add(*row[:2])]
        elif kind == "ask":
            calls, given = calls + [ask(*row)], [model.ask(*row)]
        elif kind == "want":
            calls, given = calls + [want(*row[2:])], [model.want(*row[2:])]
        elif kind == "begin" or len(model.wants) > 4:
            calls, given, model = calls + [BEGIN], [0], Model()
        else:
            calls, given = calls + [CHOOSE], model.choose()
        expected.extend([len(given)] + given)
    return joined(calls), expected


class PlainModel(unittest.TestCase):
    def test_many_sessions(self):
        chance = random.Random(20)
        for turn in range(60):
            calls, expected = some_session(chance)
            with self.subTest(turn=turn):
                self.assertEqual(answers(calls), expected)

    def test_many_pairs(self):
        chance = random.Random(5)
        seen = {}
        for turn in range(20000):
            one = nearly(chance, some_version(chance), 0.3)
            two = one if chance.random() < 0.1 else nearly(chance, some_version(chance), 0.3)
            expected = compared(one, two)
            expected = -2 if expected is None else expected
            seen[expected] = seen.get(expected, 0) + 1
            if compare(numbers_of(one), numbers_of(two)) != [expected]:
                self.fail((one, two, expected))
        self.assertGreater(min(seen[answer] for answer in (-2, -1, 0, 1)), 1000)

    def test_many_conditions(self):
        chance = random.Random(6)
        seen = {}
        for turn in range(20000):
            condition = nearly(chance, some_condition(chance), 0.2)
            version = nearly(chance, some_version(chance), 0.1)
            found = condition_holds(condition, version)
            expected = -2 if found is None or not VERSION.fullmatch(version) else int(found)
            seen[expected] = seen.get(expected, 0) + 1
            if holds(numbers_of(condition), numbers_of(version)) != [expected]:
                self.fail((condition, version, expected))
        self.assertGreater(min(seen[answer] for answer in (-2, 0, 1)), 1000)


if __name__ == "__main__":
    unittest.main()
