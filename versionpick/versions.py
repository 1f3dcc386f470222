"""Versions, their order, and the conditions that hold for them.

A text is a list of bytes. A version that has been read is a tuple: its three
numbers, then 1 if it is done and 0 if not, then its words. A word that is a
number is (0, number, ()), another is (1, 0, its bytes). So Python's own order
of tuples is the order of versions. What is read is None if the text isn't such.

A condition that has been read is a list of groups, one of which has to hold; a
group is a list of bounds, all of which have to hold; a bound is one of the
signs >= > <= < = and a version.
"""

SIGNS = (">=", ">", "<=", "<", "=", "~", "^")
MOST_DIGITS = 9


def is_digit(byte):
    return ord("0") <= byte <= ord("9")


def is_small_letter(byte):
    return ord("a") <= byte <= ord("z")


def is_large_letter(byte):
    return ord("A") <= byte <= ord("Z")


def is_word_byte(byte):
    return is_digit(byte) or is_small_letter(byte) or is_large_letter(byte) or byte == ord("-")


def all_digits(text):
    return all([is_digit(byte) for byte in text])


# One piece more than there are marks: an empty text is one empty piece, so that
# what reads the pieces sees a mark too many as a piece that isn't such.
def pieces(text, mark):
    found = [[]]
    for byte in text:
        if byte == ord(mark):
            found.append([])
        else:
            found[-1].append(byte)
    return found


def read_number(text):
    if len(text) < 1 or len(text) > MOST_DIGITS or not all_digits(text):
        return None
    if len(text) > 1 and text[0] == ord("0"):
        return None
    number = 0
    for byte in text:
        number = number * 10 + byte - ord("0")
    return number


def read_word(text):
    # Digits alone, an empty text among them, are never a word of the other kind.
    if all_digits(text):
        number = read_number(text)
        return None if number is None else (0, number, ())
    if all([is_word_byte(byte) for byte in text]):
        return (1, 0, tuple(text))
    return None


def read_version(text):
    # Words may have hyphens, numbers never: the first hyphen ends the numbers.
    front = pieces(text, "-")[0]
    numbers = [read_number(piece) for piece in pieces(front, ".")]
    if len(numbers) != 3 or None in numbers:
        return None
    if len(front) == len(text):
        return (numbers[0], numbers[1], numbers[2], 1, ())
    words = [read_word(piece) for piece in pieces(text[len(front) + 1:], ".")]
    if None in words:
        return None
    return (numbers[0], numbers[1], numbers[2], 0, tuple(words))


def compare(a, b):
    left = read_version(a)
    right = read_version(b)
    if left is None or right is None:
        return [-2]
    if left < right:
        return [-1]
    return [1 if left > right else 0]


# The first of the numbers in which the one at this place is raised by one.
def first_of_next(version, place):
    numbers = list(version[:place]) + [version[place] + 1, 0, 0]
    return (numbers[0], numbers[1], numbers[2], 0, ((0, 0, ()),))


def caret_place(version):
    if version[0] != 0:
        return 0
    if version[1] != 0:
        return 1
    return 2


# A longer sign stands in SIGNS ahead of the one that it begins with.
def sign_in_front(text):
    for sign in SIGNS:
        if text[:len(sign)] == [ord(letter) for letter in sign]:
            return sign
    return ""


def read_bounds(text):
    if text == [ord("*")]:
        return []
    sign = sign_in_front(text)
    version = read_version(text[len(sign):])
    if version is None:
        return None
    if sign == "~":
        return [(">=", version), ("<", first_of_next(version, 1))]
    if sign == "^":
        return [(">=", version), ("<", first_of_next(version, caret_place(version)))]
    if sign == "":
        return [("=", version)]
    return [(sign, version)]


def read_group(text):
    group = []
    for piece in pieces(text, " "):
        bounds = read_bounds(piece)
        if bounds is None:
            return None
        group.extend(bounds)
    return group


def read_condition(text):
    groups = [read_group(piece) for piece in pieces(text, "|")]
    return None if None in groups else groups


def keeps_bound(version, sign, limit):
    if sign == ">=":
        return version >= limit
    if sign == ">":
        return version > limit
    if sign == "<=":
        return version <= limit
    if sign == "<":
        return version < limit
    return version == limit


def keeps_group(version, group):
    return all([keeps_bound(version, sign, limit) for sign, limit in group])


# The condition and the version as they have been read.
def condition_holds(groups, version):
    return any([keeps_group(version, group) for group in groups])


def holds(condition, version):
    groups = read_condition(condition)
    read = read_version(version)
    if groups is None or read is None:
        return [-2]
    return [1 if condition_holds(groups, read) else 0]
