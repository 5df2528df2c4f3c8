"""Promise 2 for block and window, promise 3 for drop, and which pairs the passes look at."""

import unittest

from tests.lines import ask, block, drop, fields, last, pairs, record, remove, told, window

HIGHEST = 4294967295
SIX = [window(1, 1), block(2, 1), window(2, 2), block(3, 2), window(3, 1), block(4, 1, 2)]


class Block(unittest.TestCase):
    def test_pairs_that_are_the_same_in_the_field(self):
        line = (record(5, 1), record(6, 1), record(5, 2), record(6, 3), record(7, 4), block(14, 1))
        self.assertEqual(last(*line, pairs()), told((1, 3), (2, 4)))

    def test_pairs_that_are_the_same_in_all_its_fields(self):
        records = (fields(3), record(5, 1, 9), record(5, 2, 9), record(5, 1, 8), record(4, 1, 9), record(5, 7, 9))
        self.assertEqual(last(*records, block(14, 1, 3), pairs()), told((1, 2), (1, 5), (2, 5)))
        self.assertEqual(last(*records, block(14, 1, 2), pairs()), told((1, 3)))
        self.assertEqual(last(*records, block(14, 2, 3), pairs()), told((1, 4)))
        self.assertEqual(last(*records, block(14, 1, 2, 3), pairs()), told())

    def test_unknown_is_not_alike_to_unknown(self):
        records = (record(0, 3), record(0, 3), record(4, 3), record(4, 0), record(4, 0))
        self.assertEqual(last(*records, block(14, 1), pairs()), told((3, 4), (3, 5), (4, 5)))
        self.assertEqual(last(*records, block(14, 1, 2), pairs()), told())
        self.assertEqual(last(*records, block(14, 2), pairs()), told((1, 2), (1, 3), (2, 3)))

    def test_unknown_does_not_count_among_the_alike(self):
        records = (record(0, 3), record(4, 0), record(4, 0), record(0, 3), record(0, 0))
        self.assertEqual(last(*records, block(2, 1), pairs()), told((2, 3)))

    def test_so_many_at_most_they_too(self):
        three = (record(4, 1), record(4, 2), record(4, 3))
        self.assertEqual(last(*three, block(2, 1), pairs()), told())
        self.assertEqual(last(*three, block(3, 1), pairs()), told((1, 2), (1, 3), (2, 3)))
        self.assertEqual(last(*three[:2], block(2, 1), pairs()), told((1, 2)))

    def test_so_many_counts_each_group_by_itself(self):
        line = (record(4, 1), record(4, 1), record(4, 1), record(5, 1), record(5, 1), block(2, 1))
        self.assertEqual(last(*line, pairs()), told((4, 5)))

    def test_the_next_record_alike_ends_it_and_a_removal_brings_it_back(self):
        found = ask(record(4, 1), record(4, 1), block(2, 1), pairs(), record(4, 1), pairs(), remove(1), pairs())
        self.assertEqual(found[3:], [told((1, 2)), [3], told(), [2], told((2, 3))])

    def test_fourteen_alike(self):
        every = [(a, b) for a in range(1, 15) for b in range(a + 1, 15)]
        full = [record(9, 9)] * 14
        self.assertEqual(last(*full, block(14, 1), pairs()), told(*every))
        self.assertEqual(last(*full, block(13, 1), pairs()), told())

    def test_edges_of_how_many(self):
        for many in (2, 3, 13, 14):
            self.assertEqual(ask(block(many, 1)), [[1]])
        for many in (0, 1, 15, 16, HIGHEST):
            self.assertEqual(ask(block(many, 1), block(many, 1, 2)), [[-1], [-1]])

    def test_wrong_fields(self):
        for which in ((), (0,), (3,), (HIGHEST,), (0, 1), (1, 3), (2, 1), (1, 1), (2, 2), (1, 2, 2), (1, 2, 1),
                      (1, 2, 3), tuple(range(1, 21)), (1,) * 20):
            self.assertEqual(ask(block(2, *which), pairs(), block(2, 1)), [[-1], [0], [1]])

    def test_all_fields_there_are(self):
        self.assertEqual(ask(fields(5), block(2, 1, 2, 3, 4, 5), block(2, 5), block(2, 6)), [[0], [1], [2], [-1]])
        self.assertEqual(ask(fields(5), block(2, 1, 3, 2), block(2, 1, 3, 5)), [[0], [-1], [1]])
        self.assertEqual(ask(fields(1), block(2, 1), block(2, 2), block(2, 1, 2)), [[0], [1], [-1], [-1]])


class Window(unittest.TestCase):
    def test_neighbours_in_order_by_value(self):
        line = (record(40, 1), record(10, 1), record(30, 1), record(20, 1))
        self.assertEqual(last(*line, window(1, 1), pairs()), told((1, 3), (2, 4), (3, 4)))
        self.assertEqual(last(*line, window(2, 1), pairs()), told((1, 3), (1, 4), (2, 3), (2, 4), (3, 4)))
        self.assertEqual(last(*line, window(3, 1), pairs()), told((1, 2), (1, 3), (1, 4), (2, 3), (2, 4), (3, 4)))

    def test_by_its_own_field(self):
        line = (record(1, 30), record(2, 10), record(3, 20))
        self.assertEqual(last(*line, window(1, 1), pairs()), told((1, 2), (2, 3)))
        self.assertEqual(last(*line, window(1, 2), pairs()), told((1, 3), (2, 3)))

    def test_places_count_not_values(self):
        line = (record(1, 1), record(1000000, 1), window(1, 1), pairs())
        self.assertEqual(last(*line), told((1, 2)))

    def test_equal_values_stand_by_their_numbers(self):
        line = (record(7, 1), record(7, 1), record(3, 1), record(7, 1), record(3, 1))
        self.assertEqual(last(*line, window(1, 1), pairs()), told((1, 2), (1, 5), (2, 4), (3, 5)))

    def test_equal_values_do_not_share_a_place(self):
        line = (record(7, 1), record(7, 1), record(7, 1), record(7, 1), window(2, 1), pairs())
        self.assertEqual(last(*line), told((1, 2), (1, 3), (2, 3), (2, 4), (3, 4)))

    def test_unknown_stands_nowhere(self):
        line = (record(1, 1), record(0, 2), record(2, 3), record(0, 4), record(3, 5))
        self.assertEqual(last(*line, window(1, 1), pairs()), told((1, 3), (3, 5)))
        self.assertEqual(last(*line, window(13, 1), pairs()), told((1, 3), (1, 5), (3, 5)))
        self.assertEqual(last(record(0, 1), record(0, 1), window(13, 1), pairs()), told())

    def test_a_removal_lets_the_next_come_nearer(self):
        line = (record(1, 1), record(2, 1), record(3, 1), window(1, 1), remove(2), pairs())
        self.assertEqual(last(*line), told((1, 3)))

    def test_thirteen_places_reach_all_of_fourteen(self):
        full = [record(n, 1) for n in range(1, 15)]
        every = [(a, b) for a in range(1, 15) for b in range(a + 1, 15)]
        self.assertEqual(last(*full, window(13, 1), pairs()), told(*every))
        self.assertEqual(last(*full, window(12, 1), pairs()), told(*[p for p in every if p != (1, 14)]))

    def test_edges_of_how_far(self):
        for far in (1, 2, 12, 13):
            self.assertEqual(ask(window(far, 1)), [[1]])
        for far in (0, 14, 15, HIGHEST):
            self.assertEqual(ask(window(far, 1)), [[-1]])

    def test_wrong_fields(self):
        for field in (0, 3, HIGHEST):
            self.assertEqual(ask(window(1, field), pairs(), window(1, 2)), [[-1], [0], [1]])
        self.assertEqual(ask(fields(5), window(1, 5), window(1, 6)), [[0], [1], [-1]])
        self.assertEqual(ask(fields(1), window(1, 1), window(1, 2)), [[0], [1], [-1]])


class SixPasses(unittest.TestCase):
    def test_both_sorts_are_numbered_together(self):
        self.assertEqual(ask(*SIX), [[1], [2], [3], [4], [5], [6]])

    def test_the_next_is_refused(self):
        self.assertEqual(ask(*SIX, block(2, 1), window(1, 1))[6:], [[-6], [-6]])

    def test_wrong_numbers_are_told_ahead_of_too_many(self):
        wrong = (block(2), block(1, 1), block(2, 3), block(2, 2, 1), window(0, 1), window(14, 1), window(1, 3))
        self.assertEqual(ask(*SIX, *wrong)[6:], [[-1]] * len(wrong))

    def test_a_refused_pass_looks_at_nothing(self):
        records = (record(1, 1), record(1, 1), record(1, 1))
        passes = [block(2, 1, 2)] * 6
        found = ask(*records, *passes, window(13, 1), block(14, 1), pairs(), drop(6), window(1, 1), pairs())
        self.assertEqual(found[9:], [[-6], [-6], told(), [5], [7], told((1, 2), (2, 3))])


class Drop(unittest.TestCase):
    def test_answers_how_many_there_are_then(self):
        self.assertEqual(ask(*SIX[:3], drop(2), drop(3), drop(1))[3:], [[2], [1], [0]])

    def test_it_looks_no_more(self):
        line = (record(1, 1), record(1, 2), record(2, 2), block(2, 1), block(2, 2), pairs(), drop(1), pairs(), drop(2),
                pairs())
        self.assertEqual(ask(*line)[5:], [told((1, 2), (2, 3)), [1], told((2, 3)), [0], told()])

    def test_no_such_pass(self):
        for number in (0, 2, HIGHEST):
            self.assertEqual(ask(window(1, 1), drop(number))[1:], [[-3]])
        self.assertEqual(ask(window(1, 1), drop(1), drop(1))[1:], [[0], [-3]])

    def test_its_number_is_not_given_again(self):
        self.assertEqual(last(block(2, 1), window(1, 1), drop(2), block(2, 1)), [3])
        self.assertEqual(last(block(2, 1), drop(1), window(1, 1)), [2])

    def test_it_makes_room(self):
        self.assertEqual(ask(*SIX, drop(1), window(1, 1), window(1, 1))[6:], [[5], [7], [-6]])

    def test_all_is_as_it_was_after_a_refusal(self):
        found = ask(record(1, 1), record(1, 1), block(2, 1), drop(2), pairs(), window(1, 1))
        self.assertEqual(found[3:], [[-3], told((1, 2)), [2]])

    def test_records_and_passes_are_numbered_apart(self):
        found = ask(record(1, 1), record(1, 1), record(1, 1), block(2, 1), remove(1), drop(3), drop(2), drop(1))
        self.assertEqual(found[4:], [[2], [-3], [-3], [0]])


class AllPasses(unittest.TestCase):
    def test_a_pair_is_told_once(self):
        line = (record(1, 1), record(1, 1), block(2, 1), block(2, 2), block(14, 1, 2), window(1, 1), window(13, 2))
        self.assertEqual(last(*line, pairs()), told((1, 2)))

    def test_what_one_misses_another_finds(self):
        line = (record(1, 9), record(2, 8), record(1, 8), record(3, 7), block(2, 1), block(2, 2), window(1, 1))
        self.assertEqual(last(*line, pairs()), told((1, 3), (2, 3), (2, 4)))

    def test_told_in_order_whichever_pass_comes_first(self):
        records = (record(9, 1), record(8, 2), record(7, 2), record(9, 3), record(6, 1))
        expected = told((1, 2), (1, 4), (1, 5), (2, 3), (3, 5))
        passes = (window(1, 1), block(2, 2), block(2, 1))
        self.assertEqual(last(*records, *passes, pairs()), expected)
        self.assertEqual(last(*records, *reversed(passes), pairs()), expected)

    def test_numbers_of_two_digits_are_in_order_as_numbers(self):
        full = [record(n, 1) for n in range(1, 15)]
        expected = told(*[(n, n + 1) for n in range(1, 14)])
        self.assertEqual(last(*full, window(1, 1), pairs()), expected)

    def test_a_pass_also_looks_at_later_records(self):
        self.assertEqual(last(block(2, 1), window(1, 2), record(5, 1), record(5, 2), record(6, 3), pairs()),
                         told((1, 2), (2, 3)))


if __name__ == "__main__":
    unittest.main()
