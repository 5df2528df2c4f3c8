"""The document's words once more, pair by pair and as slowly as they stand, to compare with.

It shares nothing with the program: each pair is asked about by itself, in each pass.
"""

from itertools import combinations


def alike(one, other, which):
    return all(one[f - 1] != 0 and one[f - 1] == other[f - 1] for f in which)


def block_looks(records, many, which, a, b):
    if not alike(records[a], records[b], which):
        return False
    return sum(1 for values in records.values() if alike(values, records[a], which)) <= many


def place_in_row(records, field, number):
    own = (records[number][field - 1], number)
    return sum(1 for n, v in records.items() if v[field - 1] != 0 and (v[field - 1], n) < own)


def window_looks(records, far, field, a, b):
    if records[a][field - 1] == 0 or records[b][field - 1] == 0:
        return False
    return abs(place_in_row(records, field, a) - place_in_row(records, field, b)) <= far


def looks(records, one_pass, a, b):
    if one_pass[0] == "block":
        return block_looks(records, one_pass[1], one_pass[2], a, b)
    return window_looks(records, one_pass[1], one_pass[2], a, b)


def told(which):
    return [len(which)] + [number for pair in which for number in pair]


class Model:
    def __init__(self):
        self.fields(2)

    def fields(self, n):
        if n not in range(1, 6):
            return [-1]
        self.n = n
        self.records = {}
        self.passes = {}
        self.ones = []
        self.given = {"record": 0, "pass": 0}
        return [0]

    def wrong(self, values):
        return len(values) != self.n or any(v > 1000000 for v in values)

    def record(self, *values):
        if self.wrong(values):
            return [-1]
        if len(self.records) == 14:
            return [-6]
        self.given["record"] += 1
        self.records[self.given["record"]] = values
        return [self.given["record"]]

    def remove(self, number):
        if number not in self.records:
            return [-3]
        del self.records[number]
        self.ones = [(a, b) for a, b in self.ones if a != number and b != number]
        return [len(self.records)]

    def block(self, many, *which):
        there = all(f in range(1, self.n + 1) for f in which)
        rising = all(a < b for a, b in zip(which, which[1:]))
        if not which or not there or not rising or many not in range(2, 15):
            return [-1]
        return self.take_pass(("block", many, which))

    def window(self, far, field):
        if field not in range(1, self.n + 1) or far not in range(1, 14):
            return [-1]
        return self.take_pass(("window", far, field))

    def take_pass(self, one_pass):
        if len(self.passes) == 6:
            return [-6]
        self.given["pass"] += 1
        self.passes[self.given["pass"]] = one_pass
        return [self.given["pass"]]

    def drop(self, number):
        if number not in self.passes:
            return [-3]
        del self.passes[number]
        return [len(self.passes)]

    def looked_at(self, numbers):
        """The pairs that these passes look at."""
        return [(a, b) for a, b in combinations(sorted(self.records), 2)
                if any(looks(self.records, self.passes[p], a, b) for p in numbers)]

    def pairs(self):
        return told(self.looked_at(self.passes))

    def of(self, number):
        if number not in self.records:
            return [-3]
        found = [b if a == number else a for a, b in self.looked_at(self.passes) if number in (a, b)]
        return [len(found), *sorted(found)]

    def why(self, number, other):
        if not {number, other} <= set(self.records):
            return [-3]
        if number == other:
            return [-1]
        found = [p for p in sorted(self.passes) if looks(self.records, self.passes[p], number, other)]
        return [len(found), *found]

    def known(self, number, other):
        if not {number, other} <= set(self.records):
            return [-3]
        if number == other:
            return [-1]
        if {number, other} in [{a, b} for a, b in self.ones]:
            return [-4]
        self.ones.append(tuple(sorted((number, other))))
        return [len(self.ones)]

    def missing(self):
        found = self.looked_at(self.passes)
        return [pair for pair in self.ones if pair not in found]

    def missed(self):
        return told(self.missing())

    def cheapest(self):
        if self.missing():
            return [-7]
        every = [choice for size in range(7) for choice in combinations(sorted(self.passes), size)]
        found = {choice: self.looked_at(choice) for choice in every}
        fit = [choice for choice in every if set(self.ones) <= set(found[choice])]
        few = min(len(found[choice]) for choice in fit)
        # By size, and within a size by the first number that differs: so combinations come.
        best = [choice for choice in fit if len(found[choice]) == few][0]
        return [few, len(best), *best]

    def brings(self, *values):
        if self.wrong(values):
            return [-1]
        now = self.looked_at(self.passes)
        kept = dict(self.records)
        come = self.given["record"] + 1
        self.records[come] = values
        then = self.looked_at(self.passes)
        self.records = kept
        return [len([pair for pair in then if come in pair]), *told([pair for pair in now if pair not in then])]

    def counts(self):
        return [self.n, len(self.records), len(self.passes), len(self.ones), len(self.looked_at(self.passes))]
