"""A session: packages in versions, what they ask, and the calls on them.

Names, versions and conditions are handed in as lists of bytes. A refusal is -2
where a text isn't what it has to be, else -1 where something is there already
or isn't there, else -3 where there is no room.
"""

from versionpick.choosing import best_choice, count_chosen
from versionpick.versions import condition_holds, is_digit, is_small_letter, read_condition, read_version

MOST_PACKAGES = 32
MOST_VERSIONS = 32
MOST_ASKS = 16
MOST_NAME = 32

ADD = 1
ASK = 2
WANT = 3
CHOOSE = 4
# How many rows a call has, by the call's number.
ROWS = {1: 2, 2: 4, 3: 2, 4: 0, 5: 0}


def is_name_byte(byte):
    return is_small_letter(byte) or is_digit(byte) or byte == ord("-")


def is_name(text):
    return 1 <= len(text) <= MOST_NAME and all([is_name_byte(byte) for byte in text])


class Ask:
    def __init__(self, on, groups):
        self.on = on
        self.groups = groups
        self.verdicts = {}

    # One choose asks this of the same version in hundreds of choices, and a
    # version never changes its number: so each is judged once.
    def accepts(self, number, version):
        if number not in self.verdicts:
            self.verdicts[number] = condition_holds(self.groups, version)
        return self.verdicts[number]


class Release:
    def __init__(self, version):
        self.version = version
        self.asks = []


class Package:
    def __init__(self):
        self.releases = []
        self.numbers = {}

    def add_release(self, version):
        if version in self.numbers:
            return -1
        number = len(self.releases)
        if number == MOST_VERSIONS:
            return -3
        self.releases.append(Release(version))
        self.numbers[version] = number
        return number

    def find_release(self, version):
        number = self.numbers.get(version)
        return None if number is None else self.releases[number]


class Session:
    def __init__(self):
        self.packages = []
        self.numbers = {}
        self.wants = []

    def begin(self):
        self.packages.clear()
        self.numbers.clear()
        self.wants.clear()
        return 0

    def number_of(self, name):
        return self.numbers.get(tuple(name))

    def release_of(self, name, version):
        number = self.number_of(name)
        return None if number is None else self.packages[number].find_release(version)

    def add(self, name, version):
        read = read_version(version)
        if read is None or not is_name(name):
            return -2
        number = self.number_of(name)
        if number is not None:
            return self.packages[number].add_release(read)
        if len(self.packages) == MOST_PACKAGES:
            return -3
        self.numbers[tuple(name)] = len(self.packages)
        self.packages.append(Package())
        return self.packages[-1].add_release(read)

    # A name is only looked for here: one that add would not take isn't there.
    def ask(self, name, version, on, condition):
        read = read_version(version)
        groups = read_condition(condition)
        if read is None or groups is None:
            return -2
        release = self.release_of(name, read)
        if release is None:
            return -1
        return self.put_ask(release.asks, on, groups)

    def want(self, on, condition):
        groups = read_condition(condition)
        if groups is None:
            return -2
        return self.put_ask(self.wants, on, groups)

    def put_ask(self, asks, on, groups):
        number = self.number_of(on)
        if number is None:
            return -1
        if len(asks) == MOST_ASKS:
            return -3
        asks.append(Ask(number, groups))
        return 0

    def choose(self):
        choice = best_choice(self.packages, self.wants)
        if choice is None:
            return [-1]
        return [count_chosen(choice)] + choice + [-1] * (MOST_PACKAGES - len(choice))


# Each call as a pair: its number, and its rows.
def split_calls(calls):
    found = []
    place = 0
    while place < len(calls):
        number = calls[place]
        place = place + 1
        rows = []
        while len(rows) < ROWS[number]:
            end = place + 1 + calls[place]
            rows.append(calls[place + 1:end])
            place = end
        found.append((number, rows))
    return found


def answer(session, number, rows):
    if number == ADD:
        return [session.add(rows[0], rows[1])]
    if number == ASK:
        return [session.ask(rows[0], rows[1], rows[2], rows[3])]
    if number == WANT:
        return [session.want(rows[0], rows[1])]
    if number == CHOOSE:
        return session.choose()
    # There is no other call left than 5, begin.
    return [session.begin()]


def answers(calls):
    session = Session()
    given = []
    for number, rows in split_calls(calls):
        one = answer(session, number, rows)
        given.append(len(one))
        given.extend(one)
    return given
