"""Promise 3 for known, what missed tells, and where known pairs go with remove and fields."""

import unittest

from tests.lines import (ask, block, cheapest, counts, drop, fields, known, last, missed, pairs, record, remove, told,
                         window)

HIGHEST = 4294967295
FOUR = [record(1, 1), record(2, 2), record(3, 3), record(4, 4)]
FULL = [record(n, 1) for n in range(1, 15)]


class Known(unittest.TestCase):
    def test_answers_how_many_are_known_then(self):
        self.assertEqual(ask(*FOUR, known(1, 2), known(3, 4), known(1, 4))[4:], [[1], [2], [3]])

    def test_in_either_order_it_is_one_pair(self):
        self.assertEqual(ask(*FOUR, known(3, 1), known(1, 3), known(3, 1), missed())[4:],
                         [[1], [-4], [-4], told((1, 3))])

    def test_a_pair_that_is_looked_at_may_be_known(self):
        self.assertEqual(ask(*FOUR, window(1, 1), known(1, 2), known(1, 3))[5:], [[1], [2]])

    def test_all_pairs_of_eight(self):
        every = [(a, b) for a in range(1, 9) for b in range(a + 1, 9)]
        found = ask(*[record(1, 1)] * 8, *[known(b, a) for a, b in every], missed(), counts())
        self.assertEqual(found[8:], [[n] for n in range(1, 29)] + [told(*every), [2, 8, 0, 28, 0]])

    def test_one_is_not_there(self):
        for number in (0, 5, HIGHEST):
            self.assertEqual(ask(*FOUR, known(1, number), known(number, 1))[4:], [[-3], [-3]])
        self.assertEqual(ask(*FOUR, remove(2), known(1, 2), known(2, 1))[5:], [[-3], [-3]])
        self.assertEqual(ask(known(1, 2)), [[-3]])

    def test_both_are_the_same(self):
        self.assertEqual(ask(*FOUR, known(1, 1), known(4, 4))[4:], [[-1], [-1]])

    def test_not_there_is_told_ahead_of_the_same(self):
        self.assertEqual(ask(*FOUR, known(5, 5), known(0, 0), known(HIGHEST, HIGHEST))[4:], [[-3]] * 3)
        self.assertEqual(last(*FOUR, remove(2), known(2, 2)), [-3])

    def test_not_there_is_told_ahead_of_known_already(self):
        self.assertEqual(ask(*FOUR, known(1, 2), remove(2), known(1, 2))[5:], [[3], [-3]])

    def test_the_same_is_told_ahead_of_known_already(self):
        self.assertEqual(ask(*FOUR, known(1, 2), known(1, 1), known(2, 2), known(1, 2))[5:], [[-1], [-1], [-4]])

    def test_all_is_as_it_was_after_a_refusal(self):
        for refused in (known(1, 2), known(2, 1), known(1, 1), known(1, 5), known(0, 0)):
            found = ask(*FOUR, window(1, 1), known(1, 2), known(1, 4), refused, missed(), counts(), cheapest(), pairs(),
                        known(2, 3), record(5, 5))
            self.assertLess(found[7][0], 0)
            self.assertEqual(found[8:], [told((1, 4)), [2, 4, 1, 2, 3], [-7], told((1, 2), (2, 3), (3, 4)), [3], [5]])


class Missed(unittest.TestCase):
    def test_nothing_is_known(self):
        self.assertEqual(ask(missed()), [told()])
        self.assertEqual(last(*FOUR, missed()), told())
        self.assertEqual(last(*FOUR, window(1, 1), missed()), told())

    def test_no_passes_miss_all(self):
        self.assertEqual(last(*FOUR, known(1, 2), known(3, 4), missed()), told((1, 2), (3, 4)))

    def test_only_those_that_no_pass_looks_at(self):
        line = (*FOUR, window(1, 1), known(1, 2), known(1, 3), known(2, 3), known(1, 4), missed())
        self.assertEqual(last(*line), told((1, 3), (1, 4)))

    def test_what_one_misses_another_finds(self):
        line = (record(1, 5), record(1, 6), record(2, 6), block(2, 1), known(1, 2), known(2, 3), known(1, 3))
        self.assertEqual(ask(*line, missed(), block(2, 2), missed(), window(2, 1), missed())[7:],
                         [told((2, 3), (1, 3)), [2], told((1, 3)), [3], told()])

    def test_in_the_order_in_which_they_came_to_be_known(self):
        line = (*FOUR, known(4, 3), known(1, 4), known(3, 2), known(1, 2), missed())
        self.assertEqual(last(*line), told((3, 4), (1, 4), (2, 3), (1, 2)))

    def test_that_order_also_when_some_are_looked_at_or_gone(self):
        line = (*FOUR, record(9, 1), known(4, 3), known(5, 3), known(4, 1), known(3, 2), known(4, 2), known(2, 1))
        found = ask(*line, block(2, 2), missed(), remove(3), missed(), known(1, 5), missed(), drop(1), missed())
        self.assertEqual(found[12:], [
            told((3, 4), (3, 5), (1, 4), (2, 3), (2, 4), (1, 2)), [4],
            told((1, 4), (2, 4), (1, 2)), [4],
            told((1, 4), (2, 4), (1, 2)), [0],
            told((1, 4), (2, 4), (1, 2), (1, 5))])

    def test_a_refused_pair_keeps_its_place(self):
        line = (*FOUR, known(3, 4), known(1, 2), known(4, 3), missed())
        self.assertEqual(last(*line), told((3, 4), (1, 2)))

    def test_a_full_block_and_one_more(self):
        line = (record(4, 1), record(4, 1), block(2, 1), known(1, 2), missed(), record(4, 1), missed(), remove(3),
                missed())
        self.assertEqual(ask(*line)[4:], [told(), [3], told((1, 2)), [2], told()])

    def test_neighbours_that_a_record_parts(self):
        line = (record(7, 1), record(7, 1), window(1, 1), known(1, 2), record(6, 1), missed(), record(7, 1), missed())
        self.assertEqual(ask(*line)[5:], [told(), [4], told()])
        line = (record(7, 1), record(9, 1), window(1, 1), known(1, 2), missed(), record(8, 1), missed())
        self.assertEqual(ask(*line)[4:], [told(), [3], told((1, 2))])

    def test_unknown_values(self):
        line = (record(0, 0), record(0, 0), block(14, 1), window(13, 2), block(14, 1, 2), known(1, 2), missed())
        self.assertEqual(last(*line), told((1, 2)))

    def test_a_dropped_pass(self):
        line = (*FOUR, window(1, 1), window(1, 2), known(2, 3), drop(1), missed(), drop(2), missed())
        self.assertEqual(ask(*line)[7:], [[1], told(), [0], told((2, 3))])

    def test_fourteen_records_and_six_passes(self):
        passes = [window(far, 1) for far in (1, 2, 3, 4, 5, 6)]
        line = (*FULL, *passes, known(14, 1), known(8, 2), known(9, 2), known(1, 7), missed())
        self.assertEqual(last(*line), told((1, 14), (2, 9)))


class GoneWithARecord(unittest.TestCase):
    def test_the_pairs_known_with_it_and_no_others(self):
        line = (*FOUR, known(1, 2), known(2, 3), known(3, 4), known(2, 4), known(1, 4))
        found = ask(*line, remove(2), counts(), missed(), known(1, 3), known(1, 4))
        self.assertEqual(found[9:], [[3], [2, 3, 0, 2, 0], told((3, 4), (1, 4)), [3], [-4]])

    def test_the_lower_one_and_the_higher_one(self):
        line = (*FOUR, known(1, 2), known(3, 4), known(1, 4))
        self.assertEqual(last(*line, remove(1), missed()), told((3, 4)))
        self.assertEqual(last(*line, remove(4), missed()), told((1, 2)))

    def test_a_refused_removal_takes_none_along(self):
        line = (*FOUR, known(1, 2), known(3, 4), remove(5), remove(0), missed())
        self.assertEqual(ask(*line)[6:], [[-3], [-3], told((1, 2), (3, 4))])

    def test_a_number_of_a_record_is_not_that_of_a_pass(self):
        line = (*FOUR, block(2, 1), block(2, 1), known(1, 2), drop(2), drop(1), missed())
        self.assertEqual(last(*line), told((1, 2)))

    def test_cheapest_asks_no_more_for_it(self):
        line = (*FOUR, known(1, 4), cheapest(), remove(4), cheapest())
        self.assertEqual(ask(*line)[5:], [[-7], [3], [0, 0]])


class GoneWithFields(unittest.TestCase):
    def test_nothing_is_known_then(self):
        line = (*FOUR, known(1, 2), known(3, 4), fields(2))
        self.assertEqual(ask(*line, missed(), counts(), cheapest())[7:], [told(), [2, 0, 0, 0, 0], [0, 0]])

    def test_the_same_numbers_may_be_known_anew(self):
        line = (*FOUR, known(1, 2), known(3, 4), fields(1), known(1, 2), record(1), record(1), known(1, 2), missed())
        self.assertEqual(ask(*line)[7:], [[-3], [1], [2], [1], told((1, 2))])

    def test_refused_fields_leave_it(self):
        self.assertEqual(ask(*FOUR, known(1, 2), fields(0), fields(6), missed(), known(2, 1))[5:],
                         [[-1], [-1], told((1, 2)), [-4]])


if __name__ == "__main__":
    unittest.main()
