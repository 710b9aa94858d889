"""Tests of rankeffect.tables: construction, counts, sums, least counts, growth, truth and equality."""

import itertools
import unittest

from tests.odd_objects import HUGE, NO_INTEGERS, NOTHING_USUAL
from rankeffect.errors import InvalidNumber, InvalidTable, RankError
from rankeffect.sequences import Sequence
from rankeffect.tables import Table

NO_COUNTS = [*NO_INTEGERS, -1, -HUGE, Table(0, []), Sequence()]
NO_RANKS = [*NO_COUNTS, 0]
NO_LOST = [*NOTHING_USUAL, 0, 1, Table(0, []), Sequence()]


def small_tables(greatest_start, greatest_rank):
    """All tables whose start and lost ranks are at most as great."""
    ranks = range(1, greatest_rank + 1)
    return [Table(start, lost)
            for start in range(greatest_start + 1)
            for size in range(greatest_rank + 1)
            for lost in itertools.combinations(ranks, size)]


def simple_count(start, lost, count):
    return start + count - len([rank for rank in lost if rank <= count])


class ConstructionTest(unittest.TestCase):
    def test_start_and_lost(self):
        cases = [(0, []), (0, ()), (3, [1]), (0, (2, 5)), (7, [1, 2, 3]), (HUGE, [HUGE]), (0, [1, HUGE - 1, HUGE])]
        for start, lost in cases:
            table = Table(start, lost)
            self.assertEqual((table.start, table.lost), (start, tuple(lost)))
            self.assertIs(type(table.start), int)
            self.assertIs(type(table.lost), tuple)

    def test_by_name(self):
        table = Table(lost=[2, 4], start=3)
        self.assertEqual((table.start, table.lost), (3, (2, 4)))

    def test_wrong_starts(self):
        for start in NO_COUNTS:
            for lost in ([], (), [1], (1, 4), [2, 1], None):
                self.check_refused(start, lost)

    def test_wrong_kinds_of_lost(self):
        for lost in NO_LOST:
            for start in (0, 1, -1, True, None):
                self.check_refused(start, lost)

    def test_wrong_ranks(self):
        for rank in NO_RANKS:
            for lost in ([rank], (rank,), [rank, 5], [1, rank], (1, rank, 7)):
                self.check_refused(0, lost)

    def test_wrong_orders(self):
        falling = [[2, 1], (1, 3, 2), [1, 2, 3, 2], [5, 4, 6], [HUGE, 1], [3, 1, 3]]
        repeated = [[1, 1], (2, 2), [1, 2, 2], [1, 1, 2], [HUGE, HUGE]]
        for lost in falling + repeated:
            self.check_refused(0, lost)
            self.check_refused(4, tuple(lost))

    def check_refused(self, start, lost):
        with self.assertRaises(InvalidTable) as caught:
            Table(start, lost)
        value = caught.exception.value
        self.assertIs(type(value), tuple)
        self.assertEqual(len(value), 2)
        self.assertIs(value[0], start)
        self.assertIs(value[1], lost)

    def test_the_error_is_a_rank_error(self):
        with self.assertRaises(RankError):
            Table(-1, [])

    def test_later_changes_of_the_list(self):
        lost = [2, 4]
        table = Table(1, lost)
        self.assertEqual(lost, [2, 4])
        lost.append(6)
        lost[0] = 3
        self.assertEqual(table.lost, (2, 4))
        self.assertEqual([table(count) for count in range(7)], [1, 2, 2, 3, 3, 4, 5])
        self.assertEqual(table, Table(1, [2, 4]))
        self.assertEqual(table.growth, -1)


class CallTest(unittest.TestCase):
    def test_counts_around_lost_ranks(self):
        table = Table(2, (1, 3, 4, 9))
        self.assertEqual([table(count) for count in range(12)], [2, 2, 3, 3, 3, 4, 5, 6, 7, 7, 8, 9])

    def test_against_the_definition(self):
        for table in small_tables(2, 5):
            for count in range(9):
                self.assertEqual(table(count), simple_count(table.start, table.lost, count))

    def test_long_counts_and_ranks(self):
        table = Table(5, [1, HUGE - 1, HUGE])
        self.assertEqual([table(HUGE - 2), table(HUGE - 1), table(HUGE)], [HUGE + 2, HUGE + 2, HUGE + 2])
        self.assertEqual(Table(HUGE, [])(HUGE), 2 * HUGE)
        self.assertEqual(Table(0, [HUGE])(10), 10)

    def test_many_lost_ranks(self):
        lost = list(range(3, 6003, 3))
        table = Table(7, lost)
        for count in (0, 1, 2, 3, 4, 2999, 3000, 3001, 5999, 6000, 6001, 10 ** 50):
            self.assertEqual(table(count), simple_count(7, lost, count))

    def test_by_name(self):
        self.assertEqual(Table(1, [2])(count=5), 5)
        with self.assertRaises(InvalidNumber):
            Table(1, [2])(count=-5)

    def test_results_are_integers(self):
        self.assertIs(type(Table(0, [1])(1)), int)
        self.assertIs(type(Table(0, [])(0)), int)

    def test_what_is_no_count(self):
        for table in (Table(0, []), Table(3, [1, 2])):
            for value in NO_COUNTS:
                with self.assertRaises(InvalidNumber) as caught:
                    table(value)
                self.assertIs(caught.exception.value, value)


class SumTest(unittest.TestCase):
    def test_one_after_the_other(self):
        tables = small_tables(2, 4)
        for first in tables:
            for second in tables:
                total = first + second
                self.assertIs(type(total), Table)
                counts = range(len(first.lost) + len(second.lost) + 8)
                wanted = [second(first(count)) for count in counts]
                self.assertEqual([total(count) for count in counts], wanted)
                self.assertEqual(total.start, wanted[0])
                lost = [count for count in counts[1:] if wanted[count] == wanted[count - 1]]
                self.assertEqual(total.lost, tuple(lost))
                self.assertEqual(total.growth, first.growth + second.growth)

    def test_the_order_matters(self):
        first, second = Table(1, ()), Table(0, (1,))
        self.assertEqual(first + second, Table(0, ()))
        self.assertEqual(second + first, Table(1, (1,)))

    def test_associativity(self):
        tables = [Table(0, ()), Table(1, ()), Table(0, (1,)), Table(0, (2,)), Table(2, (1, 3)), Table(1, (2, 3, 5)),
                  Table(0, (1, 2, 6)), Table(3, (4,)), Table(HUGE, (1,)), Table(0, (7, HUGE))]
        for first, second, third in itertools.product(tables, repeat=3):
            self.assertEqual((first + second) + third, first + (second + third))

    def test_the_table_that_changes_nothing(self):
        nothing = Table(0, ())
        for table in small_tables(2, 3):
            for total in (table + nothing, nothing + table):
                self.assertEqual(total, table)
                self.assertIsNot(total, table)
        self.assertEqual(nothing + nothing, nothing)
        self.assertIsNot(nothing + nothing, nothing)

    def test_operands_stay_as_they_are(self):
        first, second = Table(1, [2, 3]), Table(2, [1, 5])
        total = first
        total += second
        self.assertEqual((first.start, first.lost), (1, (2, 3)))
        self.assertEqual((second.start, second.lost), (2, (1, 5)))
        self.assertEqual((total.start, total.lost), (2, (2, 3, 6)))

    def test_long_starts_and_ranks(self):
        self.assertEqual(Table(HUGE, ()) + Table(0, (HUGE,)), Table(HUGE - 1, ()))
        self.assertEqual(Table(HUGE - 1, (1,)) + Table(0, (HUGE,)), Table(HUGE - 1, (1, 2)))
        self.assertEqual(Table(0, (1, 2)) + Table(0, (HUGE - 2,)), Table(0, (1, 2, HUGE)))
        self.assertEqual(Table(5, (1, 3)) + Table(7, (HUGE,)), Table(12, (1, 3, HUGE - 3)))
        self.assertEqual(Table(0, (HUGE,)) + Table(0, (HUGE - 1, HUGE)), Table(0, (HUGE - 1, HUGE, HUGE + 1)))

    def test_long_counts_in_sums(self):
        first, second = Table(3, (2, HUGE - 5)), Table(1, (4, HUGE - 4, HUGE))
        total = first + second
        for offset in range(12):
            count = HUGE - 8 + offset
            self.assertEqual(total(count), second(first(count)))

    def test_many_lost_ranks(self):
        first, second = Table(3, list(range(1, 4001, 2))), Table(1, list(range(2, 6002, 3)))
        total = first + second
        self.assertEqual(len(total.lost), 3999)
        self.assertEqual(total.growth, first.growth + second.growth)
        for count in [*range(30), *range(3990, 4010), 7999, 8000, 9990, 9991, 9992, 9999, 10 ** 40]:
            self.assertEqual(total(count), second(first(count)))


class LeastTest(unittest.TestCase):
    def test_against_the_definition(self):
        for table in small_tables(3, 5):
            for wanted in range(12):
                count = 0
                while table(count) < wanted:
                    count += 1
                self.assertEqual(table.least(wanted), count)

    def test_counts_up_to_the_start(self):
        table = Table(4, (1, 2))
        self.assertEqual([table.least(count) for count in range(8)], [0, 0, 0, 0, 0, 3, 4, 5])
        self.assertEqual(Table(0, (1,)).least(0), 0)
        self.assertIs(type(Table(0, (1,)).least(0)), int)

    def test_long_counts(self):
        self.assertEqual(Table(0, ()).least(HUGE), HUGE)
        self.assertEqual(Table(HUGE, (1,)).least(HUGE), 0)
        self.assertEqual(Table(HUGE - 1, (1,)).least(HUGE), 2)
        self.assertEqual(Table(0, (1, 2, HUGE)).least(HUGE - 2), HUGE + 1)
        self.assertEqual(Table(0, (1, 2, HUGE)).least(HUGE - 3), HUGE - 1)
        self.assertEqual(Table(10, (HUGE - 1, HUGE)).least(HUGE + 9), HUGE + 1)

    def test_many_lost_ranks(self):
        table = Table(0, list(range(1, 2001)))
        self.assertEqual([table.least(0), table.least(1), table.least(HUGE)], [0, 2001, HUGE + 2000])

    def test_by_name(self):
        self.assertEqual(Table(1, (1, 4)).least(count=3), 3)
        with self.assertRaises(InvalidNumber):
            Table(1, (1, 4)).least(count=None)

    def test_what_is_no_count(self):
        for table in (Table(0, []), Table(3, [1, 2])):
            for value in NO_COUNTS:
                with self.assertRaises(InvalidNumber) as caught:
                    table.least(value)
                self.assertIs(caught.exception.value, value)


class GrowthTest(unittest.TestCase):
    def test_growth(self):
        cases = [(0, (), 0), (4, (), 4), (0, (1,), -1), (0, (2, 9, 30), -3), (2, (5, 6), 0),
                 (HUGE, (1, HUGE), HUGE - 2)]
        for start, lost, growth in cases:
            table = Table(start, lost)
            self.assertEqual(table.growth, growth)
            self.assertEqual(table(HUGE), HUGE + growth)


class TruthTest(unittest.TestCase):
    def test_only_the_table_that_changes_nothing_is_false(self):
        self.assertIs(bool(Table(0, [])), False)
        self.assertIs(bool(Table(0, ())), False)
        for start, lost in ((1, ()), (0, (1,)), (1, (1,)), (2, (1, 2)), (0, (HUGE,)), (HUGE, ()), (3, (1, 2, 3))):
            self.assertIs(bool(Table(start, lost)), True)

    def test_truth_of_sums(self):
        self.assertIs(bool(Table(1, ()) + Table(0, (1,))), False)
        self.assertIs(bool(Table(0, (1,)) + Table(1, ())), True)


class EqualityTest(unittest.TestCase):
    def test_equal_tables(self):
        for start, lost in ((0, []), (3, [1, 2]), (0, [HUGE])):
            self.assertIs(Table(start, lost) == Table(start, tuple(lost)), True)
            self.assertIs(Table(start, lost) != Table(start, tuple(lost)), False)
        table = Table(1, [2])
        self.assertIs(table == table, True)

    def test_unequal_tables(self):
        tables = small_tables(2, 3) + [Table(HUGE, ()), Table(0, (HUGE,))]
        for one, two in itertools.combinations(tables, 2):
            self.assertIs(one == two, False)
            self.assertIs(one != two, True)

    def test_objects_of_other_classes(self):
        for table in (Table(0, ()), Table(1, (2, 3))):
            others = ((table.start, table.lost), [table.start, list(table.lost)], table.lost, table.start, None, False,
                      True, 0, (), "", {}, object(), Table, Sequence())
            for other in others:
                self.assertIs(table == other, False)
                self.assertIs(table != other, True)
                self.assertIs(other == table, False)


class ExampleTest(unittest.TestCase):
    def test_example(self):
        first, second = Table(0, [2]), Table(1, (1, 4))
        self.assertEqual([[first(count) for count in range(5)], (first + second).start, (first + second).lost,
                          second.least(3), second.growth, bool(Table(0, []))],
                         [[0, 1, 1, 2, 3], 1, (1, 2, 5), 3, -1, False])


if __name__ == "__main__":
    unittest.main()
