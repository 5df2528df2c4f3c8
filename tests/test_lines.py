"""The interface: how calls and answers are laid, and that nothing is kept or changed."""

import contextlib
import io
import random
import unittest

from pairpass.desk import answers
from tests import lines
from tests.lines import ask, block, drop, fields, laid, pairs, record, remove, window
from tests.model import Model


class Laid(unittest.TestCase):
    def test_each_answer_has_its_length_ahead(self):
        calls = [0, 1, 1, 1, 5, 1, 1, 5, 1, 1, 6, 4, 1, 1, 3, 2, 1, 1, 6, 2, 3, 5, 1, 6]
        self.assertEqual(answers(calls), [1, 0, 1, 1, 1, 2, 1, 3, 1, 1, 1, 2, 5, 2, 1, 2, 2, 3, 1, 2, 1, 1, 3, 1, 1, 2])

    def test_a_refusal_is_alone(self):
        self.assertEqual(answers([0, 6, 1, 0, 2, 1, 3, 2, 0, 4, 0, 1, 5, 1]),
                         [1, -1, 1, -1, 1, -3, 1, -1, 1, -1, 1, -3])

    def test_a_refused_row_is_stepped_over_whole(self):
        self.assertEqual(answers([1, 20] + [6] * 20 + [3, 2, 20] + [6] * 20 + [6]), [1, -1, 1, -1, 1, 0])

    def test_whole_numbers_in_a_list(self):
        given = answers(laid([record(1, 1), record(1, 1), block(2, 1), pairs(), remove(7)]))
        self.assertIs(type(given), list)
        self.assertEqual({type(number) for number in given}, {int})

    def test_sixty_calls(self):
        self.assertEqual(ask(*[pairs()] * 60), [[0]] * 60)
        self.assertEqual(ask(*[record(1, 1), remove(1)], *[record(1, 1)] * 58)[1:],
                         [[0]] + [[n] for n in range(2, 16)] + [[-6]] * 44)


class Apart(unittest.TestCase):
    line = laid([fields(2), record(3, 1), record(3, 0), record(4, 1), block(2, 1), window(1, 1), pairs(), remove(1),
                 drop(1), pairs(), record(9), fields(9), block(2, 2, 1), pairs()])

    def test_what_is_handed_in_is_as_it_was(self):
        handed = list(self.line)
        answers(handed)
        self.assertEqual(handed, self.line)

    def test_a_second_time_answers_the_same(self):
        handed = list(self.line)
        first = answers(handed)
        kept = list(first)
        self.assertEqual(answers(handed), kept)
        self.assertEqual(first, kept)

    def test_a_line_keeps_nothing_for_the_next(self):
        answers(laid([fields(5), record(1, 1, 1, 1, 1), window(1, 5)]))
        self.assertEqual(ask(remove(1), drop(1), record(1, 1), window(1, 1)), [[-3], [-3], [1], [1]])

    def test_a_changed_answer_changes_no_later_one(self):
        first = answers(self.line)
        kept = list(first)
        first.clear()
        self.assertEqual(answers(self.line), kept)

    def test_nothing_is_printed(self):
        out, err = io.StringIO(), io.StringIO()
        with contextlib.redirect_stdout(out), contextlib.redirect_stderr(err):
            answers(self.line)
        self.assertEqual((out.getvalue(), err.getvalue()), ("", ""))


def some_value(source):
    return source.choice((0, 1, 1, 2, 2, 3, 1000000, 1000001) if source.random() < 0.1 else (0, 1, 1, 2, 2, 3, 1000000))


def some_call(source, n):
    name = source.choice(["record"] * 8 + ["block"] * 3 + ["window"] * 3 + ["remove", "drop"] + ["pairs"] * 3)
    if name == "record":
        length = n if source.random() < 0.95 else source.randrange(7)
        return name, [some_value(source) for place in range(length)]
    if name == "block":
        which = [field for field in range(1, n + 1) if source.random() < 0.4]
        if source.random() < 0.1:
            which = [source.randrange(7) for place in range(source.randrange(4))]
        return name, [source.choice((0, 1, 2, 3, 4, 5, 13, 14, 15)), *which]
    if name == "window":
        return name, [source.choice((0, 1, 1, 2, 3, 13, 14)), source.randrange(n + 1)]
    return name, {"remove": [source.randrange(18)], "drop": [source.randrange(9)], "pairs": []}[name]


def some_line(source):
    n = source.choice((1, 2, 3, 5))
    line = [("fields", [n])]
    while len(line) < 59:
        line.append(some_call(source, n))
        if source.random() < 0.01:
            n = source.randrange(1, 6)
            line.append(("fields", [n]))
    return line[:59] + [("pairs", [])]


class AgainstTheModel(unittest.TestCase):
    def test_the_same_answers_in_many_lines(self):
        source = random.Random(14)
        for turn in range(300):
            line = some_line(source)
            model = Model()
            expected = [getattr(model, name)(*numbers) for name, numbers in line]
            found = ask(*[getattr(lines, name)(*numbers) for name, numbers in line])
            self.assertEqual(found, expected, line)


if __name__ == "__main__":
    unittest.main()
