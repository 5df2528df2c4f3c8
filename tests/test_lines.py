"""The interface: how calls and answers are laid, and that nothing is kept or changed."""

import contextlib
import io
import random
import unittest

from pairpass.desk import answers
from tests import lines
from tests.lines import (ask, block, brings, cheapest, counts, drop, fields, known, laid, missed, of, pairs, record,
                         remove, why, window)
from tests.model import Model


class Laid(unittest.TestCase):
    def test_each_answer_has_its_length_ahead(self):
        calls = [0, 1, 1, 1, 5, 1, 1, 5, 1, 1, 6, 4, 1, 1, 3, 2, 1, 1, 6, 2, 3, 5, 1, 6]
        self.assertEqual(answers(calls), [1, 0, 1, 1, 1, 2, 1, 3, 1, 1, 1, 2, 5, 2, 1, 2, 2, 3, 1, 2, 1, 1, 3, 1, 1, 2])

    def test_each_later_answer_has_its_length_ahead(self):
        calls = [0, 1, 1, 1, 5, 1, 1, 5, 1, 1, 6, 4, 1, 1, 3, 2, 1, 1]
        given = answers(calls)
        for call, answer in (([7, 2], [3, 2, 1, 3]), ([8, 2, 1], [3, 2, 1, 2]), ([8, 1, 3], [1, 0]),
                             ([9, 3, 1], [1, 1]), ([10], [1, 0]), ([9, 3, 1, 10], [1, 1, 3, 1, 1, 3]),
                             ([11], [2, 0, 0]), ([9, 1, 2, 11], [1, 1, 3, 1, 1, 2]), ([12, 1, 5], [4, 2, 1, 2, 3]),
                             ([13], [5, 1, 3, 2, 0, 2])):
            self.assertEqual(answers(calls + call), given + answer)

    def test_a_refusal_is_alone(self):
        self.assertEqual(answers([0, 6, 1, 0, 2, 1, 3, 2, 0, 4, 0, 1, 5, 1]),
                         [1, -1, 1, -1, 1, -3, 1, -1, 1, -1, 1, -3])
        self.assertEqual(answers([7, 1, 8, 1, 2, 9, 1, 2, 12, 0]), [1, -3, 1, -3, 1, -3, 1, -1])
        self.assertEqual(answers([1, 2, 1, 1, 1, 2, 1, 1, 8, 1, 1, 9, 1, 1, 9, 1, 2, 9, 2, 1, 11]),
                         [1, 1, 1, 2, 1, -1, 1, -1, 1, 1, 1, -4, 1, -7])

    def test_a_refused_row_is_stepped_over_whole(self):
        self.assertEqual(answers([1, 20] + [6] * 20 + [3, 2, 20] + [6] * 20 + [6]), [1, -1, 1, -1, 1, 0])
        self.assertEqual(answers([12, 20] + [13] * 20 + [10]), [1, -1, 1, 0])

    def test_whole_numbers_in_a_list(self):
        given = answers(laid([record(1, 1), record(1, 1), block(2, 1), pairs(), remove(7), of(1), why(2, 1),
                              known(1, 2), known(2, 1), missed(), cheapest(), brings(1, 0), counts(), drop(1),
                              missed(), fields(1)]))
        self.assertIs(type(given), list)
        self.assertEqual({type(number) for number in given}, {int})

    def test_sixty_calls(self):
        self.assertEqual(ask(*[pairs()] * 60), [[0]] * 60)
        self.assertEqual(ask(*[record(1, 1), remove(1)], *[record(1, 1)] * 58)[1:],
                         [[0]] + [[n] for n in range(2, 16)] + [[-6]] * 44)


def refuse_change(*given, **named):
    raise AssertionError("what was handed in was to be changed")


class Untouched(list):
    """A list that can't be changed, not for a while either."""


for change in ("append", "clear", "extend", "insert", "pop", "remove", "reverse", "sort", "__setitem__", "__delitem__",
               "__iadd__", "__imul__"):
    setattr(Untouched, change, refuse_change)


class Apart(unittest.TestCase):
    line = laid([fields(2), record(3, 1), record(3, 0), record(4, 1), block(2, 1), window(1, 1), pairs(), remove(1),
                 drop(1), pairs(), record(9), fields(9), block(2, 2, 1), pairs(), record(3, 1), of(4), why(4, 2),
                 known(4, 2), known(3, 2), known(2, 4), missed(), cheapest(), brings(3, 5), brings(3), counts()])

    def test_what_is_handed_in_is_as_it_was(self):
        handed = list(self.line)
        answers(handed)
        self.assertEqual(handed, self.line)

    def test_what_is_handed_in_is_not_changed_for_a_while_either(self):
        self.assertEqual(answers(Untouched(self.line)), answers(self.line))

    def test_a_second_time_answers_the_same(self):
        handed = list(self.line)
        first = answers(handed)
        kept = list(first)
        self.assertEqual(answers(handed), kept)
        self.assertEqual(first, kept)

    def test_a_line_keeps_nothing_for_the_next(self):
        answers(laid([fields(5), record(1, 1, 1, 1, 1), record(1, 1, 1, 1, 1), window(1, 5), known(1, 2)]))
        found = ask(counts(), remove(1), drop(1), record(1, 1), window(1, 1), record(1, 1), missed(), known(1, 2))
        self.assertEqual(found, [[2, 0, 0, 0, 0], [-3], [-3], [1], [1], [2], [0], [1]])

    def test_a_changed_answer_changes_no_later_one(self):
        first = answers(self.line)
        kept = list(first)
        first.clear()
        self.assertEqual(answers(self.line), kept)

    def test_nothing_is_printed(self):
        out, err = io.StringIO(), io.StringIO()
        with contextlib.redirect_stdout(out), contextlib.redirect_stderr(err):
            answers(self.line)
        self.assertEqual((out.getvalue(), err.getvalue()), ("", ""))


class ChangeNothing(unittest.TestCase):
    line = (fields(3), record(1, 5, 0), record(1, 6, 2), record(2, 6, 2), record(2, 7, 2), record(1, 8, 0), block(2, 1),
            block(3, 3), window(1, 2), drop(1), window(2, 2), remove(4), known(5, 3), known(2, 1), known(1, 5))
    after = (counts(), pairs(), missed(), cheapest(), of(1), of(2), of(3), of(5), why(2, 3), why(1, 5), brings(1, 6, 2),
             known(1, 2), known(2, 3), missed(), record(2, 2, 2), window(1, 1), block(2, 1), pairs(), counts(),
             cheapest())
    asked = (of(2), of(4), of(0), why(1, 2), why(2, 1), why(1, 4), why(3, 3), missed(), cheapest(), brings(1, 6, 2),
             brings(0, 0, 0), brings(1, 6), brings(1000001, 1, 1), counts(), pairs())

    def test_as_if_it_had_not_been_asked(self):
        expected = ask(*self.line, *self.after)[len(self.line):]
        for question in self.asked:
            found = ask(*self.line, question, question, *self.after)[len(self.line):]
            self.assertEqual(found[0], found[1], question)
            self.assertEqual(found[2:], expected, question)

    def test_as_if_none_of_them_had_been_asked(self):
        expected = ask(*self.line, *self.after)[len(self.line):]
        found = ask(*self.line, *self.asked, *self.after)[len(self.line) + len(self.asked):]
        self.assertEqual(found, expected)

    def test_a_refusal_leaves_all_as_it_was(self):
        expected = ask(*self.line, *self.after)[len(self.line):]
        refused = ((fields(0), -1), (fields(6), -1), (record(1, 2), -1), (record(1, 2, 1000001), -1), (remove(4), -3),
                   (block(2, 2, 1), -1), (block(1, 1), -1), (window(0, 1), -1), (window(1, 4), -1), (drop(1), -3),
                   (of(4), -3), (why(1, 4), -3), (why(1, 1), -1), (known(4, 1), -3), (known(5, 5), -1),
                   (known(3, 5), -4), (brings(1, 2), -1), (brings(1, 2, 1000001), -1))
        for call, number in refused:
            found = ask(*self.line, call, *self.after)[len(self.line):]
            self.assertEqual(found, [[number], *expected], call)


# What is asked for most is what makes the desk fuller, so that there is something to ask about.
WEIGHTS = {"record": 14, "block": 4, "window": 4, "known": 7, "remove": 2, "drop": 2, "pairs": 2, "of": 2, "why": 2,
           "missed": 2, "cheapest": 4, "brings": 4, "counts": 2}
NAMES = [name for name, weight in WEIGHTS.items() for turn in range(weight)]


def some_value(source):
    return source.choice((0, 1, 1, 2, 2, 3, 1000000, 1000001) if source.random() < 0.1 else (0, 1, 1, 2, 2, 3, 1000000))


def some_values(source, n):
    length = n if source.random() < 0.95 else source.randrange(7)
    return [some_value(source) for place in range(length)]


def some_block(source, n):
    which = [field for field in range(1, n + 1) if source.random() < 0.4]
    if source.random() < 0.1:
        which = [source.randrange(7) for place in range(source.randrange(4))]
    return [source.choice((0, 1, 2, 3, 4, 5, 13, 14, 15)), *which]


def some_call(source, n):
    name = source.choice(NAMES)
    if name in ("record", "brings"):
        return name, some_values(source, n)
    if name == "block":
        return name, some_block(source, n)
    if name == "window":
        return name, [source.choice((0, 1, 1, 2, 3, 13, 14)), source.randrange(n + 1)]
    if name in ("why", "known"):
        # Half of them among few numbers, so that pairs are known already, or both are the same.
        few = source.choice((6, 16))
        return name, [source.randrange(few), source.randrange(few)]
    highest = {"remove": 17, "drop": 8, "of": 15}
    return name, [source.randrange(highest[name] + 1)] if name in highest else []


def some_line(source):
    n = source.choice((1, 2, 3, 5))
    line = [("fields", [n])]
    while len(line) < 54:
        line.append(some_call(source, n))
        if source.random() < 0.01:
            n = source.randrange(1, 6)
            line.append(("fields", [n]))
    return line[:54] + [("pairs", []), ("missed", []), ("cheapest", []), ("brings", some_values(source, n)),
                        ("of", [source.randrange(16)]), ("counts", [])]


def any_line(source):
    """Calls in any order, each of the fourteen as often as the others, about numbers of any size."""
    def number():
        return source.choice((0, 1, 1, 2, 2, 3, 3, 4, 5, 6, 14, 15, 1000001, 4294967295))

    def row():
        return [number() for place in range(source.choice((0, 1, 2, 2, 2, 3, 20)))]

    shapes = {"fields": lambda: [number()], "record": row, "remove": lambda: [number()],
              "block": lambda: [number(), *row()], "window": lambda: [number(), number()], "drop": lambda: [number()],
              "pairs": list, "of": lambda: [number()], "why": lambda: [number(), number()],
              "known": lambda: [number(), number()], "missed": list, "cheapest": list, "brings": row, "counts": list}
    names = [source.choice(list(shapes)) for turn in range(source.randrange(1, 61))]
    return [(name, shapes[name]()) for name in names]


def covering_line(source):
    """Few known pairs, all of them looked at, so that cheapest has much to choose from."""
    n = source.choice((3, 4, 5))
    values = source.choice(((0, 1, 2, 3), (1, 2, 3, 4, 5, 6), (0, 1, 2, 3, 4, 5, 6, 7, 8, 9)))
    model = Model()
    line = [("fields", [n])] + [("record", [source.choice(values) for field in range(n)])
                                for turn in range(source.randrange(4, 15))]
    for turn in range(6):
        if source.random() < 0.7:
            which = source.sample(range(1, n + 1), source.choice((1, 1, 2)))
            line.append(("block", [source.choice((2, 2, 3, 4)), *sorted(which)]))
        else:
            line.append(("window", [source.choice((1, 1, 2)), source.randrange(1, n + 1)]))
    for name, numbers in line:
        getattr(model, name)(*numbers)
    looked_at = model.looked_at(model.passes)
    for pair in source.sample(looked_at, min(len(looked_at), 6)):
        line += [("known", list(pair)), ("cheapest", [])]
    return line + [("drop", [source.randrange(1, 7)]), ("cheapest", []), ("missed", []), ("remove", [1]),
                   ("cheapest", [])]


class AgainstTheModel(unittest.TestCase):
    def check(self, line):
        model = Model()
        expected = [getattr(model, name)(*numbers) for name, numbers in line]
        found = ask(*[getattr(lines, name)(*numbers) for name, numbers in line])
        self.assertEqual(found, expected, line)
        return list(zip([name for name, numbers in line], found))

    def test_the_same_answers_in_many_lines(self):
        source = random.Random(14)
        seen = set()
        for turn in range(300):
            line = some_line(source)
            self.assertEqual(len(line), 60)
            seen.update((name, min(found[0], 0)) for name, found in self.check(line))
        # Each call was answered, and each refusal was met.
        self.assertEqual({name for name, number in seen if number == 0}, {"fields", *WEIGHTS})
        self.assertLessEqual({("record", -1), ("record", -6), ("remove", -3), ("block", -1), ("block", -6),
                              ("window", -1), ("window", -6), ("drop", -3), ("of", -3), ("why", -3), ("why", -1),
                              ("known", -3), ("known", -1), ("known", -4), ("cheapest", -7), ("brings", -1)}, seen)

    def test_the_same_answers_in_any_order(self):
        source = random.Random(60)
        for turn in range(300):
            self.check(any_line(source))

    def test_the_same_choices_where_there_are_many(self):
        source = random.Random(6)
        sizes = set()
        for turn in range(60):
            sizes.update(found[1] for name, found in self.check(covering_line(source))
                         if name == "cheapest" and found[0] >= 0)
        self.assertLessEqual({0, 1, 2, 3}, sizes)


if __name__ == "__main__":
    unittest.main()
