"""Promise 1 for fields and record, promise 3 for remove, and the beginning of a line."""

import unittest

from tests.lines import ask, block, drop, fields, last, pairs, record, remove, told, window

HIGHEST = 4294967295


class Beginning(unittest.TestCase):
    def test_two_fields(self):
        self.assertEqual(ask(record(5), record(5, 6), record(5, 6, 7)), [[-1], [1], [-1]])
        self.assertEqual(ask(window(1, 2), window(1, 3)), [[1], [-1]])
        self.assertEqual(ask(block(2, 1, 2), block(2, 1, 3)), [[1], [-1]])

    def test_no_records_and_no_passes(self):
        self.assertEqual(ask(pairs()), [[0]])
        self.assertEqual(ask(remove(1)), [[-3]])
        self.assertEqual(ask(drop(1)), [[-3]])

    def test_records_without_a_pass_make_no_pairs(self):
        self.assertEqual(last(record(1, 1), record(1, 1), pairs()), [0])

    def test_passes_without_records_make_no_pairs(self):
        self.assertEqual(last(block(14, 1), window(13, 1), pairs()), [0])


class Fields(unittest.TestCase):
    def test_from_one_to_five(self):
        for n in range(1, 6):
            self.assertEqual(ask(fields(n), record(*[7] * n)), [[0], [1]])
            self.assertEqual(ask(fields(n), record(*[7] * (n + 1))), [[0], [-1]])
            self.assertEqual(ask(fields(n), window(1, n), window(1, n + 1)), [[0], [1], [-1]])

    def test_other_counts_are_refused(self):
        for n in (0, 6, 7, HIGHEST):
            self.assertEqual(ask(fields(n)), [[-1]])

    def test_nothing_else_is_there_then(self):
        line = (record(1, 1), record(1, 1), block(2, 1), fields(2))
        self.assertEqual(last(*line, remove(1)), [-3])
        self.assertEqual(last(*line, drop(1)), [-3])
        self.assertEqual(last(*line, record(1, 1), record(1, 1), pairs()), [0])
        self.assertEqual(last(*line, window(1, 1), pairs()), [0])

    def test_numbers_begin_at_one_again(self):
        line = ask(record(1, 1), record(1, 1), block(2, 1), window(1, 1), fields(1), record(1), window(1, 1))
        self.assertEqual(line[4:], [[0], [1], [1]])

    def test_all_is_as_it_was_after_a_refusal(self):
        for n in (0, 6):
            line = ask(fields(3), record(1, 2, 3), record(1, 2, 3), block(2, 1, 3), fields(n), pairs(),
                       record(4, 4, 4), window(1, 3))
            self.assertEqual(line[4:], [[-1], told((1, 2)), [3], [2]])


class Records(unittest.TestCase):
    def test_numbered_from_one_on(self):
        self.assertEqual(ask(record(1, 2), record(1, 2), record(3, 4)), [[1], [2], [3]])

    def test_edges_of_a_value(self):
        for value in (0, 1, 999999, 1000000):
            self.assertEqual(ask(record(value, 1), record(1, value)), [[1], [2]])
        for value in (1000001, HIGHEST):
            self.assertEqual(ask(record(value, 1), record(1, value)), [[-1], [-1]])

    def test_a_value_for_each_field(self):
        for values in ((), (1,), (1, 2, 3), (1,) * 20):
            self.assertEqual(ask(record(*values), record(1, 2)), [[-1], [1]])

    def test_fourteen_and_the_next(self):
        full = [record(n, n) for n in range(1, 15)]
        self.assertEqual(ask(*full, record(1, 1))[13:], [[14], [-6]])

    def test_wrong_values_are_told_ahead_of_too_many(self):
        full = [record(n, n) for n in range(1, 15)]
        found = ask(*full, record(1), record(), record(1, 1000001), record(1, 1000000))
        self.assertEqual(found[14:], [[-1], [-1], [-1], [-6]])

    def test_all_is_as_it_was_after_a_refusal(self):
        found = ask(record(1, 1), record(1), record(2000000, 1), window(13, 1), pairs(), record(1, 1), pairs())
        self.assertEqual(found, [[1], [-1], [-1], [1], [0], [2], told((1, 2))])

    def test_a_record_refused_when_full_leaves_no_trace(self):
        full = [record(n, n) for n in range(1, 15)]
        found = ask(*full, record(20, 20), window(1, 1), pairs(), remove(15), remove(1), record(20, 20))
        neighbours = [(n, n + 1) for n in range(1, 14)]
        self.assertEqual(found[14:], [[-6], [1], told(*neighbours), [-3], [13], [15]])


class Remove(unittest.TestCase):
    def test_answers_how_many_there_are_then(self):
        line = ask(record(1, 1), record(1, 1), record(1, 1), remove(2), remove(1), remove(3))
        self.assertEqual(line[3:], [[2], [1], [0]])

    def test_it_is_gone(self):
        line = (record(1, 1), record(1, 1), record(1, 1), block(14, 1))
        self.assertEqual(last(*line, pairs()), told((1, 2), (1, 3), (2, 3)))
        self.assertEqual(last(*line, remove(2), pairs()), told((1, 3)))

    def test_no_such_record(self):
        for number in (0, 2, 3, HIGHEST):
            self.assertEqual(ask(record(1, 1), remove(number))[1:], [[-3]])
        self.assertEqual(ask(record(1, 1), remove(1), remove(1))[1:], [[0], [-3]])

    def test_its_number_is_not_given_again(self):
        self.assertEqual(last(record(1, 1), record(1, 1), remove(2), record(1, 1)), [3])
        self.assertEqual(last(record(1, 1), remove(1), record(1, 1)), [2])
        self.assertEqual(last(record(1, 1), record(1, 1), remove(1), record(1, 1)), [3])

    def test_it_makes_room(self):
        full = [record(1, n) for n in range(1, 15)]
        self.assertEqual(ask(*full, remove(4), record(1, 1), record(1, 1))[14:], [[13], [15], [-6]])

    def test_all_is_as_it_was_after_a_refusal(self):
        found = ask(record(1, 1), record(1, 1), block(2, 1), remove(3), pairs(), record(2, 2))
        self.assertEqual(found[3:], [[-3], told((1, 2)), [3]])


if __name__ == "__main__":
    unittest.main()
