"""The best of the right choices.

A choice is a list: for each package, by number, the number of the version
chosen, or -1 if none is. Packages, their releases and the asks are those of
versionpick.packs.
"""


# What may be chosen of one package, the better ahead.
def options(package):
    releases = package.releases
    numbers = sorted(range(len(releases)), key=lambda number: releases[number].version, reverse=True)
    return [-1] + numbers


# The last package's options change fastest from one place to the next, so that
# of two choices the one at the lower place is better at the first difference.
def choice_at(place, rows):
    choice = []
    rest = place
    for row in reversed(rows):
        choice.append(row[rest % len(row)])
        rest = rest // len(row)
    choice.reverse()
    return choice


def count_chosen(choice):
    return len([number for number in choice if number >= 0])


def is_met(ask, packages, choice):
    number = choice[ask.on]
    return number >= 0 and ask.accepts(number, packages[ask.on].releases[number].version)


# Walks from outside along what is asked. A chosen package that is not reached
# so is asked for by nobody that counts, even if it and others ask each other.
def is_right(packages, wants, choice):
    reached = {}
    waiting = list(wants)
    while len(waiting) > 0:
        ask = waiting.pop()
        if not is_met(ask, packages, choice):
            return False
        if ask.on not in reached:
            reached[ask.on] = True
            waiting.extend(packages[ask.on].releases[choice[ask.on]].asks)
    return len(reached) == count_chosen(choice)


# None if no choice is right.
def best_choice(packages, wants):
    rows = [options(package) for package in packages]
    places = 1
    for row in rows:
        places = places * len(row)
    for place in range(places):
        choice = choice_at(place, rows)
        if is_right(packages, wants, choice):
            return choice
    return None
