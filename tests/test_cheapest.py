"""Promise 3 for cheapest: the fewest pairs, and which choice of passes counts."""

import unittest

from tests.lines import (ask, block, cheapest, counts, drop, fields, known, last, missed, pairs, record, remove, told,
                         window)

# Neighbours in a row by field 1; field 2 makes the groups 1, 2 and 3, 4 and 5, 6.
SIX = [record(10, 1), record(20, 1), record(30, 2), record(40, 2), record(50, 3), record(60, 3)]
FULL = [record(n, n) for n in range(1, 15)]


class Fewest(unittest.TestCase):
    def test_nothing_known_asks_for_no_pass(self):
        self.assertEqual(ask(cheapest()), [[0, 0]])
        self.assertEqual(last(*SIX, cheapest()), [0, 0])
        self.assertEqual(last(*SIX, window(1, 1), block(2, 2), cheapest()), [0, 0])
        self.assertEqual(last(window(1, 1), block(14, 2), cheapest()), [0, 0])

    def test_no_pass_even_where_passes_look_at_nothing(self):
        self.assertEqual(last(*SIX, block(2, 1), cheapest()), [0, 0])

    def test_one_pass_that_looks_at_fewer(self):
        line = (*SIX, window(13, 1), window(1, 1), block(2, 2))
        self.assertEqual(last(*line, known(1, 2), cheapest()), [3, 1, 3])
        self.assertEqual(last(*line, known(2, 3), cheapest()), [5, 1, 2])
        self.assertEqual(last(*line, known(1, 6), cheapest()), [15, 1, 1])

    def test_two_passes_that_look_at_fewer_than_one(self):
        line = (*SIX, record(10, 7), block(2, 1), block(2, 2), window(13, 1))
        self.assertEqual(last(*line, known(1, 7), known(3, 4), cheapest()), [4, 2, 1, 2])

    def test_one_pass_that_looks_at_fewer_than_two(self):
        # Pass 3 looks at the neighbours 1-2, 2-3; passes 1 and 2 at 1-2 and 2-3 with more besides.
        line = (fields(3), record(1, 1, 1), record(1, 2, 2), record(2, 2, 3), record(1, 2, 0), block(3, 1), block(3, 2),
                window(1, 3), known(1, 2), known(2, 3))
        self.assertEqual(last(*line, cheapest()), [2, 1, 3])
        self.assertEqual(last(*line, drop(3), cheapest()), [5, 2, 1, 2])

    def test_what_several_passes_look_at_counts_once(self):
        # Passes 1 and 2 look at 5 and at 3 pairs, 2 of them in common; pass 3 at 9, which 2 adds one to.
        line = (record(10, 5), record(20, 6), record(30, 0), record(40, 0), record(50, 8), record(60, 7), window(1, 1),
                window(1, 2), window(2, 1), known(2, 6), known(1, 2))
        self.assertEqual(last(*line, cheapest()), [3, 1, 2])
        self.assertEqual(last(*line, known(3, 4), cheapest()), [6, 2, 1, 2])
        self.assertEqual(last(*line, known(3, 5), cheapest()), [10, 2, 2, 3])

    def test_all_passes_may_be_needed(self):
        line = (fields(3), record(1, 0, 0), record(1, 2, 0), record(0, 2, 3), record(0, 0, 3), block(2, 1), block(2, 2),
                block(2, 3), known(1, 2), known(2, 3), known(3, 4), cheapest())
        self.assertEqual(last(*line), [3, 3, 1, 2, 3])

    def test_six_passes_and_fourteen_records(self):
        passes = [window(far, 1) for far in (13, 6, 5, 4, 3, 2)]
        line = (*FULL, *passes)
        self.assertEqual(last(*line, known(1, 2), cheapest()), [25, 1, 6])
        self.assertEqual(last(*line, known(1, 2), known(3, 6), cheapest()), [36, 1, 5])
        self.assertEqual(last(*line, known(1, 2), known(3, 6), known(14, 1), cheapest()), [91, 1, 1])

    def test_six_needed_of_six(self):
        # Fields 1 to 5 have one pair each; only fields 1 and 2 together tell 7 and 8 from 9 and from 10.
        chain = [record(*[1 if field in (n, n + 1) else 0 for field in range(1, 6)]) for n in range(6)]
        crowd = (record(9, 9, 0, 0, 0), record(9, 9, 0, 0, 0), record(9, 0, 0, 0, 0), record(0, 9, 0, 0, 0))
        passes = (*[block(2, field) for field in range(1, 6)], block(2, 1, 2))
        ones = (*[known(n, n + 1) for n in range(1, 6)], known(7, 8))
        self.assertEqual(last(fields(5), *chain, *crowd, *passes, *ones, cheapest()), [6, 6, 1, 2, 3, 4, 5, 6])


class EquallyFew(unittest.TestCase):
    def test_fewer_passes_count(self):
        # Pass 4 alone looks at just what 1, 2 and 3 together look at.
        line = (fields(4), record(1, 0, 0, 1), record(1, 2, 0, 2), record(0, 2, 3, 3), record(0, 0, 3, 4),
                block(2, 1), block(2, 2), block(2, 3), window(1, 4), known(1, 2), known(2, 3), known(3, 4))
        self.assertEqual(last(*line, cheapest()), [3, 1, 4])
        self.assertEqual(last(*line, drop(4), cheapest()), [3, 3, 1, 2, 3])

    def test_two_passes_count_ahead_of_three_with_lower_numbers(self):
        line = (fields(5), record(1, 0, 0, 1, 0), record(1, 2, 0, 2, 0), record(0, 2, 3, 3, 1), record(0, 0, 3, 0, 2),
                block(2, 1), block(2, 2), block(2, 3), window(1, 4), window(1, 5),
                known(1, 2), known(2, 3), known(3, 4))
        self.assertEqual(last(*line, cheapest()), [3, 2, 3, 4])
        self.assertEqual(last(*line, drop(3), cheapest()), [3, 2, 4, 5])

    def test_a_pass_that_adds_nothing_is_not_chosen(self):
        line = (*SIX, block(3, 1), block(2, 2), block(2, 1, 2), block(3, 2), known(1, 2), cheapest())
        self.assertEqual(last(*line), [3, 1, 2])

    def test_the_lesser_number_counts_of_one_pass(self):
        line = (*SIX, window(1, 1), block(2, 2), block(3, 2), block(14, 2), known(3, 4))
        self.assertEqual(last(*line, cheapest()), [3, 1, 2])
        self.assertEqual(last(*line, drop(2), cheapest()), [3, 1, 3])
        self.assertEqual(last(*line, drop(3), cheapest()), [3, 1, 2])

    def test_the_lesser_number_counts_at_the_first_that_differs(self):
        # Passes 1 and 4 look at 1-2, passes 2 and 3 at 3-4.
        line = (record(5, 0), record(5, 0), record(0, 6), record(0, 6), block(2, 1), block(2, 2), block(3, 2),
                block(3, 1), known(1, 2), known(3, 4))
        self.assertEqual(last(*line, cheapest()), [2, 2, 1, 2])
        self.assertEqual(last(*line, drop(2), cheapest()), [2, 2, 1, 3])
        self.assertEqual(last(*line, drop(1), cheapest()), [2, 2, 2, 4])
        self.assertEqual(last(*line, drop(1), drop(2), cheapest()), [2, 2, 3, 4])

    def test_the_first_that_differs_not_the_last(self):
        # Fields 1 and 4, or fields 2 and 3, find 1-2, 3-4 and 5-6 with one pair more; others find less, or more.
        records = [record(*values) for values in ((1, 1, 0, 0), (2, 0, 1, 0), (0, 0, 2, 1), (4, 0, 0, 0), (0, 0, 3, 0))
                   for twice in range(2)]
        line = (fields(4), *records, known(1, 2), known(3, 4), known(5, 6))
        for order, expected in (((1, 2, 3, 4), [1, 4]), ((2, 1, 4, 3), [1, 4]), ((1, 4, 2, 3), [1, 2]),
                                ((2, 4, 3, 1), [1, 3])):
            self.assertEqual(last(*line, *[block(2, field) for field in order], cheapest()), [4, 2, *expected])

    def test_numbers_of_passes_are_compared_as_numbers(self):
        line = [record(5, 0), record(5, 0)]
        for number in range(1, 10):
            line += [block(2, 1), drop(number)]
        line += [block(3, 1), block(4, 1), known(1, 2), drop(10), block(2, 1), cheapest()]
        self.assertEqual(last(*line), [1, 1, 11])


class AllPassesMissOne(unittest.TestCase):
    def test_no_passes(self):
        self.assertEqual(last(*SIX, known(1, 2), cheapest()), [-7])

    def test_one_of_several_is_missed(self):
        line = (*SIX, window(1, 1), block(2, 2), known(1, 2), known(1, 3), known(3, 4), cheapest())
        self.assertEqual(last(*line), [-7])

    def test_looked_at_by_all_together_is_enough(self):
        line = (*SIX, record(10, 0), block(2, 1), block(2, 2), known(1, 7), known(5, 6), cheapest(), drop(1),
                cheapest())
        self.assertEqual(ask(*line)[11:], [[4, 2, 1, 2], [1], [-7]])

    def test_a_record_more_in_a_full_block(self):
        line = (record(1, 1), record(1, 1), block(2, 1), known(1, 2), cheapest(), record(1, 1), cheapest(), remove(3),
                cheapest())
        self.assertEqual(ask(*line)[4:], [[1, 1, 1], [3], [-7], [2], [1, 1, 1]])

    def test_unknown_values(self):
        line = (record(0, 1), record(0, 1), block(14, 1), window(13, 1), block(14, 1, 2), known(1, 2), cheapest())
        self.assertEqual(last(*line), [-7])

    def test_all_is_as_it_was(self):
        line = (*SIX, window(1, 1), known(1, 3), known(1, 2), cheapest(), missed(), counts(), pairs(), window(2, 1),
                cheapest(), record(1, 1))
        neighbours = told(*[(n, n + 1) for n in range(1, 6)])
        self.assertEqual(ask(*line)[9:], [[-7], told((1, 3)), [2, 6, 1, 2, 5], neighbours, [2], [9, 1, 2], [7]])


if __name__ == "__main__":
    unittest.main()
