"""How the tests lay calls into a list and take the answers apart."""

from pairpass.desk import answers


def fields(n):
    return [0, n]


def record(*values):
    return [1, len(values), *values]


def remove(number):
    return [2, number]


def block(many, *which):
    return [3, many, len(which), *which]


def window(far, field):
    return [4, far, field]


def drop(number):
    return [5, number]


def pairs():
    return [6]


def of(number):
    return [7, number]


def why(number, other):
    return [8, number, other]


def known(number, other):
    return [9, number, other]


def missed():
    return [10]


def cheapest():
    return [11]


def brings(*values):
    return [12, len(values), *values]


def counts():
    return [13]


def laid(calls):
    return [number for call in calls for number in call]


def split(given):
    """Each call's answer, without the length ahead of it."""
    found = []
    place = 0
    while place < len(given):
        length = given[place]
        found.append(given[place + 1:place + 1 + length])
        place += 1 + length
    return found


def ask(*calls):
    found = split(answers(laid(calls)))
    if len(found) != len(calls):
        raise AssertionError(f"{len(calls)} calls, {len(found)} answers")
    return found


def last(*calls):
    return ask(*calls)[-1]


def told(*which):
    """What pairs or missed answers if it tells just these."""
    return [len(which), *laid(which)]
