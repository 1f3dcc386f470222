"""Writes calls as the list of numbers that answers takes, and reads its answers."""

from versionpick.packs import answers

CHOOSE = [4]
BEGIN = [5]


def numbers_of(text):
    return list(text.encode("latin-1")) if isinstance(text, str) else list(text)


def row(text):
    numbers = numbers_of(text)
    return [len(numbers)] + numbers


def add(name, version):
    return [1] + row(name) + row(version)


def ask(name, version, on, condition):
    return [2] + row(name) + row(version) + row(on) + row(condition)


def want(on, condition):
    return [3] + row(on) + row(condition)


def joined(calls):
    return [number for call in calls for number in call]


def run(*calls):
    """The answer of each call, a list each."""
    given = answers(joined(calls))
    found = []
    while given:
        count = given[0]
        assert len(given) > count > 0, given
        found.append(given[1:count + 1])
        given = given[count + 1:]
    assert len(found) == len(calls), found
    return found


def last(*calls):
    """The answer of the last call alone; a number if it is one number."""
    found = run(*calls)[-1]
    return found[0] if len(found) == 1 else found


def chosen(*numbers):
    """What choose answers where these are chosen of the first packages."""
    count = len([number for number in numbers if number >= 0])
    return [count] + list(numbers) + [-1] * (32 - len(numbers))


def is_taken(condition, version):
    """Whether choose takes the version where it is wanted so."""
    answer = last(add("p", version), want("p", condition), CHOOSE)
    if answer == chosen(0):
        return True
    assert answer == -1, (condition, version, answer)
    return False
