"""The document's words once more, pair by pair and as slowly as they stand, to compare with.

It shares nothing with the program: each pair is asked about by itself, in each pass.
"""

from itertools import combinations


def alike(one, other, which):
    return all(one[f - 1] != 0 and one[f - 1] == other[f - 1] for f in which)


def block_looks(records, many, which, a, b):
    if not alike(records[a], records[b], which):
        return False
    return sum(1 for values in records.values() if alike(values, records[a], which)) <= many


def place_in_row(records, field, number):
    own = (records[number][field - 1], number)
    return sum(1 for n, v in records.items() if v[field - 1] != 0 and (v[field - 1], n) < own)


def window_looks(records, far, field, a, b):
    if records[a][field - 1] == 0 or records[b][field - 1] == 0:
        return False
    return abs(place_in_row(records, field, a) - place_in_row(records, field, b)) <= far


def looks(records, one_pass, a, b):
    if one_pass[0] == "block":
        return block_looks(records, one_pass[1], one_pass[2], a, b)
    return window_looks(records, one_pass[1], one_pass[2], a, b)


class Model:
    def __init__(self):
        self.fields(2)

    def fields(self, n):
        if n not in range(1, 6):
            return [-1]
        self.n = n
        self.records = {}
        self.passes = {}
        self.given = {"record": 0, "pass": 0}
        return [0]

    def record(self, *values):
        if len(values) != self.n or any(v > 1000000 for v in values):
            return [-1]
        if len(self.records) == 14:
            return [-6]
        self.given["record"] += 1
        self.records[self.given["record"]] = values
        return [self.given["record"]]

    def remove(self, number):
        if number not in self.records:
            return [-3]
        del self.records[number]
        return [len(self.records)]

    def block(self, many, *which):
        there = all(f in range(1, self.n + 1) for f in which)
        rising = all(a < b for a, b in zip(which, which[1:]))
        if not which or not there or not rising or many not in range(2, 15):
            return [-1]
        return self.take_pass(("block", many, which))

    def window(self, far, field):
        if field not in range(1, self.n + 1) or far not in range(1, 14):
            return [-1]
        return self.take_pass(("window", far, field))

    def take_pass(self, one_pass):
        if len(self.passes) == 6:
            return [-6]
        self.given["pass"] += 1
        self.passes[self.given["pass"]] = one_pass
        return [self.given["pass"]]

    def drop(self, number):
        if number not in self.passes:
            return [-3]
        del self.passes[number]
        return [len(self.passes)]

    def pairs(self):
        found = []
        for a, b in combinations(sorted(self.records), 2):
            if any(looks(self.records, p, a, b) for p in self.passes.values()):
                found.append((a, b))
        return [len(found)] + [number for pair in found for number in pair]
