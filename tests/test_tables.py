"""The promises [2.1] to [2.5], and the functions of pinnedgaps.base.tables."""

import unittest
from fractions import Fraction
from itertools import combinations, product

from pinnedgaps.base import tables
from pinnedgaps.base.numbers import is_fraction
from pinnedgaps.base.tables import (
    changed_table, determinant, diagonal_paper, diagonal_table, has_no_minus, is_diagonal_paper, is_minus_row,
    is_table, minus_row, table_part, table_scaled, table_sum, type_of, value_at)
from pinnedgaps.errors import InvalidNumber, InvalidOperation, InvalidRow, InvalidTable
from tests.exact import exact, exact_rows
from tests.samples import LONG, LONG_BOTTOM, ODD_VALUES, SIXTY, SIXTY_ONE

SADDLE, FLAT = ((0, 1), (1, 0)), ((0, 0), (0, -1))
LONG_FRACTION = (LONG, LONG_BOTTOM)
LONG_TABLE = ((LONG_FRACTION, (1, LONG_BOTTOM)), ((1, LONG_BOTTOM), (-LONG, LONG_BOTTOM)))

NO_TABLES = ODD_VALUES + (
    (1, 2), ((1, 2),), ((1,), (2,)), ((1, 2), (3, 4)), ((1, 2), (2,)), ((1, 2), (2, 3), (4, 5)), [[1]], ([1],), [(1,)],
    ((True,),), ((0, 1), (True, 0)), (("1",),), ((None,),), (((2, 4),),), ((SIXTY_ONE,),), ((1, (1, 2)), ((2, 1), 1)),
    ((),), tuple((0,) * 41 for _ in range(41)), tuple((0,) * 40 for _ in range(41)),
)
# Some odd values are no numbers, but rows of two numbers all the same.
ROWS_OF_TWO = ((2, 4), (1, 0), (1, -2), (0, 2), ((1, 2), 3))
NO_ROWS_OF_TWO = tuple(value for value in ODD_VALUES if value not in ROWS_OF_TWO) + (
    [1, 2], (1, True), (False, 0), (1, None), (1, (2, 4)), (1, SIXTY_ONE), (1, [2, 3]), ((1, 2),), ((1, 2), (0, 3)))
NO_SQUARES_OF_TWO = ODD_VALUES + (
    (1, 2), ((1, 2),), ((1, 2), (3, 4), (5, 6)), ((1, 2), (3,)), ((1, 2, 3), (4, 5, 6)), [[1, 0], [0, 1]],
    ([1, 0], [0, 1]), [(1, 0), (0, 1)], ((1, 0), (0, True)), ((1, 0), (0, (2, 2))), ((1, 0), (0, SIXTY_ONE)))


def exact_determinant(rows):
    """By the first row, so that no elimination is used."""
    if not rows:
        return Fraction(1)
    found = Fraction(0)
    for place, entry in enumerate(rows[0]):
        if entry != 0:
            found += (-1) ** place * entry * exact_determinant([row[:place] + row[place + 1:] for row in rows[1:]])
    return found


def exact_changed(table, change):
    entries, rows = exact_rows(table), exact_rows(change)
    led = [[sum(x * y for x, y in zip(row, column)) for column in entries] for row in rows]
    return [[sum(x * y for x, y in zip(row, other)) for other in rows] for row in led]


def exact_parts(table):
    """The determinants of all parts."""
    entries = exact_rows(table)
    places = range(len(table))
    return [exact_determinant([[entries[i][j] for j in some] for i in some])
            for many in range(1, len(table) + 1) for some in combinations(places, many)]


def symmetric(count, entry_at):
    """The table with `entry_at(row, place)` for each place that is at most the row."""
    return tuple(tuple(entry_at(max(i, j), min(i, j)) for j in range(count)) for i in range(count))


def tables_of(count, entries):
    places = [(i, j) for i in range(count) for j in range(i + 1)]
    for chosen in product(entries, repeat=len(places)):
        by_place = dict(zip(places, chosen))
        yield symmetric(count, lambda row, place: by_place[row, place])


def some_tables():
    """All small ones with few entries: noughts, pluses and minuses, and 0 at the diagonal."""
    yield from tables_of(1, (-1, 0, 1, (1, 2), (-7, 3)))
    yield from tables_of(2, (-2, -1, 0, 1, (1, 2), (-2, 3), 3))
    yield from tables_of(3, (-1, 0, 1, (1, 2)))


def mixed(row, place):
    """An entry that shows no pattern."""
    return (row * 37 + place * 61 + row * place * 17) % 19 - 9


def gram(count, rank):
    """A table without a minus, with so many rows and plusses."""
    rows = [[mixed(at + 3, place + at) + (50 if at == place else 0) for place in range(rank)] for at in range(count)]
    return symmetric(count, lambda i, j: sum(x * y for x, y in zip(rows[i], rows[j])))


def sign_of(number):
    return (number[0] > 0) - (number[0] < 0)


class TablesTest(unittest.TestCase):
    def refused_table(self, call, *arguments):
        with self.assertRaises(InvalidTable):
            call(*arguments)

    def refused_operation(self, call, *arguments):
        with self.assertRaises(InvalidOperation):
            call(*arguments)

    def assert_fractions(self, rows):
        self.assertIs(type(rows), tuple)
        for row in rows:
            self.assertIs(type(row), tuple)
            for entry in row:
                self.assertTrue(is_fraction(entry))

    def assert_table(self, found, wanted):
        self.assert_fractions(found)
        self.assertEqual(exact_rows(found), wanted)

    def assert_paper(self, table, paper):
        """A diagonal paper, for small tables, by means of this test alone."""
        change, diagonal = paper
        self.assert_fractions(change)
        self.assert_fractions((diagonal,))
        wanted = [[exact(diagonal[i]) if i == j else 0 for j in range(len(table))] for i in range(len(table))]
        self.assertEqual(exact_changed(table, change), wanted)
        self.assertNotEqual(exact_determinant(exact_rows(change)), 0)


class ExamplesTest(TablesTest):
    def test_types(self):
        self.assertEqual(
            [type_of(SADDLE), has_no_minus(SADDLE), determinant(SADDLE), type_of(FLAT),
             has_no_minus(((2, 1), (1, (1, 2)))), type_of(((2, 1), (1, (1, 2))))],
            [(1, 1, 0), False, (-1, 1), (0, 1, 1), True, (1, 0, 1)])

    def test_rows_and_papers(self):
        self.assertEqual(
            [is_minus_row(SADDLE, (1, -1)), minus_row(((1, 0), (0, 0))), value_at(SADDLE, (2, (1, 2))),
             is_diagonal_paper(SADDLE, (((1, 1), (1, -1)), (2, -2)))],
            [True, None, (2, 1), True])

    def test_made_tables(self):
        self.assertEqual(
            [table_sum(SADDLE, diagonal_table((1, 1))), table_scaled(SADDLE, (1, 2)),
             table_part(((1, 2, 3), (2, 4, 5), (3, 5, 6)), (0, 2)), changed_table(SADDLE, ((1, 1), (0, 0)))],
            [(((1, 1), (1, 1)), ((1, 1), (1, 1))), (((0, 1), (1, 2)), ((1, 2), (0, 1))),
             (((1, 1), (3, 1)), ((3, 1), (6, 1))), (((2, 1), (0, 1)), ((0, 1), (0, 1)))])

    def test_refused(self):
        self.refused_operation(table_sum, SADDLE, ((1,),))


class JudgedTableTest(TablesTest):
    def test_constant(self):
        self.assertEqual(tables.MAX_TABLE, 40)

    def test_tables(self):
        for value in (((0,),), (((1, 2),),), SADDLE, FLAT, LONG_TABLE, ((1, 2), ((2, 1), 1)), ((SIXTY,),),
                      ((0, (SIXTY_ONE, 1)), ((SIXTY_ONE, 1), -SIXTY)), symmetric(40, mixed)):
            self.assertIs(is_table(value), True)

    def test_no_tables(self):
        for value in NO_TABLES:
            self.assertIs(is_table(value), False)

    def test_each_function_refuses_what_is_no_table(self):
        for value in NO_TABLES:
            for call in (has_no_minus, type_of, diagonal_paper, minus_row, determinant):
                self.refused_table(call, value)
            for call in (is_diagonal_paper, is_minus_row, value_at, table_sum, table_scaled, table_part,
                         changed_table):
                # The other argument is wrong, too, but comes later.
                self.refused_table(call, value, None)
            self.refused_table(table_sum, SADDLE, value)
            self.refused_table(table_sum, value, SADDLE)


class DiagonalTableTest(TablesTest):
    def test_diagonals(self):
        self.assertEqual(diagonal_table((5,)), (((5, 1),),))
        self.assertEqual(diagonal_table((0, (-1, 2), LONG_FRACTION)), (
            ((0, 1), (0, 1), (0, 1)), ((0, 1), (-1, 2), (0, 1)), ((0, 1), (0, 1), LONG_FRACTION)))

    def test_forty_numbers(self):
        found = diagonal_table(tuple(range(40)))
        self.assert_table(found, [[i if i == j else 0 for j in range(40)] for i in range(40)])
        self.assertEqual(type_of(found), (39, 0, 1))

    def test_wrong_numbers(self):
        for value in ((), (1,) * 41, [1, 2], (1, True), (1, (2, 4)), (None,), (SIXTY_ONE,), ((1,),), 5, (1, "2"),
                      True, None, "12", {}, {0: 1}, SADDLE + (1,)):
            self.refused_operation(diagonal_table, value)


class MinusTest(TablesTest):
    def test_no_minus_by_all_parts(self):
        for table in some_tables():
            self.assertIs(has_no_minus(table), min(exact_parts(table)) >= 0)

    def test_without_a_minus_0_at_the_diagonal_stands_beside_0_alone(self):
        for table in some_tables():
            if has_no_minus(table):
                for at, row in enumerate(table):
                    if row[at] == 0:
                        self.assertEqual(row, (0,) * len(table))

    def test_types_are_those_of_the_papers(self):
        for table in some_tables():
            paper = diagonal_paper(table)
            self.assert_paper(table, paper)
            signs = [sign_of(number) for number in paper[1]]
            self.assertEqual(type_of(table), (signs.count(1), signs.count(-1), signs.count(0)))
            self.assertIs(has_no_minus(table), -1 not in signs)
            self.assertIs(is_diagonal_paper(table, paper), True)

    def test_determinants(self):
        for table in some_tables():
            self.assertEqual(exact_rows(((determinant(table),),)), [[exact_determinant(exact_rows(table))]])
            self.assertTrue(is_fraction(determinant(table)))

    def test_tables_of_five_rows(self):
        for shift in range(60):
            table = symmetric(5, lambda i, j: 0 if (i + j + shift) % 3 == 0 or i == j < 3 else mixed(i + shift, j))
            paper = diagonal_paper(table)
            self.assert_paper(table, paper)
            self.assertTrue(is_diagonal_paper(table, paper))
            self.assertEqual(has_no_minus(table), min(exact_parts(table)) >= 0)
            self.assertEqual(exact(determinant(table)), exact_determinant(exact_rows(table)))

    def test_sums_multiples_and_parts_have_no_minus_either(self):
        fine = [table for table in some_tables() if len(table) == 3 and has_no_minus(table)]
        self.assertGreater(len(fine), 20)
        for at, table in enumerate(fine):
            self.assertTrue(has_no_minus(table_sum(table, fine[at - 1])))
            for number in (0, (0, 1), 3, (1, 7)):
                self.assertTrue(has_no_minus(table_scaled(table, number)))
            for places in ((0,), (1,), (2,), (0, 1), (0, 2), (1, 2), (0, 1, 2)):
                self.assertTrue(has_no_minus(table_part(table, places)))

    def test_one_row(self):
        self.assertEqual([type_of(((3,),)), type_of((((-1, 3),),)), type_of(((0,),))],
                         [(1, 0, 0), (0, 1, 0), (0, 0, 1)])
        self.assertEqual([has_no_minus(((3,),)), has_no_minus((((-1, 3),),)), has_no_minus(((0,),))],
                         [True, False, True])
        self.assertEqual([determinant(((3,),)), determinant((((-1, 3),),)), determinant(((0,),))],
                         [(3, 1), (-1, 3), (0, 1)])

    def test_signs_of_all_three_kinds_without_a_diagonal(self):
        table = ((0, 0, 2, 0), (0, 0, 0, 0), (2, 0, 0, 0), (0, 0, 0, 0))
        self.assertEqual([type_of(table), has_no_minus(table), determinant(table)], [(1, 1, 2), False, (0, 1)])
        self.assertEqual(type_of(((0, 1, 1), (1, 0, 1), (1, 1, 0))), (1, 2, 0))
        self.assertEqual(determinant(((0, 1, 1), (1, 0, 1), (1, 1, 0))), (2, 1))

    def test_long_fractions(self):
        self.assertEqual([type_of(LONG_TABLE), has_no_minus(LONG_TABLE)], [(1, 1, 0), False])
        self.assertEqual(exact(determinant(LONG_TABLE)), exact_determinant(exact_rows(LONG_TABLE)))
        self.assert_paper(LONG_TABLE, diagonal_paper(LONG_TABLE))
        self.assertTrue(is_diagonal_paper(LONG_TABLE, diagonal_paper(LONG_TABLE)))
        self.assertTrue(is_minus_row(LONG_TABLE, minus_row(LONG_TABLE)))


class FortyRowsTest(TablesTest):
    def assert_kind(self, table, kind):
        self.assertEqual(type_of(table), kind)
        self.assertEqual(has_no_minus(table), kind[1] == 0)
        self.assertEqual(determinant(table)[0] == 0, kind[2] > 0)
        change, diagonal = diagonal_paper(table)
        self.assertEqual(exact_changed(table, change),
                         [[exact(diagonal[i]) if i == j else 0 for j in range(40)] for i in range(40)])
        self.assertTrue(is_diagonal_paper(table, (change, diagonal)))
        row = minus_row(table)
        self.assertEqual(row is None, kind[1] == 0)
        self.assertEqual(is_minus_row(table, row), kind[1] > 0)

    def test_all_plusses(self):
        self.assert_kind(gram(40, 40), (40, 0, 0))

    def test_noughts(self):
        self.assert_kind(gram(40, 25), (25, 0, 15))

    def test_nothing_else_than_noughts(self):
        self.assert_kind(symmetric(40, lambda i, j: 0), (0, 0, 40))

    def test_one_minus(self):
        self.assert_kind(symmetric(40, lambda i, j: 0 if i == j else 1), (1, 39, 0))

    def test_the_last_place_decides(self):
        table = symmetric(40, lambda i, j: (1 if i < 39 else (1, 10 ** 50)) if i == j else 0)
        self.assert_kind(table, (40, 0, 0))
        less_there = diagonal_table((0,) * 39 + ((2, 10 ** 50 + 1),))
        self.assert_kind(table_sum(table, table_scaled(less_there, -1)), (39, 1, 0))

    def test_integers_of_sixty_digits(self):
        table = symmetric(40, lambda i, j: SIXTY - (i * 41 + j) ** 7 * 7 ** 40 if i == j else mixed(i, j) * 10 ** 40)
        self.assertEqual(type_of(table), (40, 0, 0))
        self.assertTrue(is_diagonal_paper(table, diagonal_paper(table)))
        self.assertEqual(type_of(table_scaled(table, -1)), (0, 40, 0))

    def test_determinant(self):
        # Ones beside twos at the diagonal: n + 1.
        table = symmetric(40, lambda i, j: 2 if i == j else 1)
        self.assertEqual([determinant(table), determinant(table_scaled(table, (-1, 2)))], [(41, 1), (41, 2 ** 40)])


class PaperTest(TablesTest):
    def test_papers_of_others(self):
        self.assertTrue(is_diagonal_paper(SADDLE, (((1, -1), (1, 1)), (-2, (2, 1)))))
        self.assertTrue(is_diagonal_paper(SADDLE, (((2, 2), ((1, 3), (-1, 3))), (8, (-2, 9)))))
        long_value = (-LONG ** 2, LONG_BOTTOM ** 2 // 2)
        self.assertTrue(is_diagonal_paper(
            SADDLE, (((1, 1), (LONG_FRACTION, (-LONG, LONG_BOTTOM))), (2, long_value))))

    def test_papers_with_noughts(self):
        table = ((1, 1, 1), (1, 1, 1), (1, 1, 1))
        self.assertTrue(is_diagonal_paper(table, (((1, 0, 0), (1, -1, 0), (0, 1, -1)), (1, 0, 0))))
        self.assertTrue(is_diagonal_paper(table, (((1, -1, 0), (5, 0, 0), ((1, 2), (1, 2), -1)), (0, 25, (0, 1)))))

    def test_changes_with_the_determinant_0_make_none(self):
        table = ((1, 1, 1), (1, 1, 1), (1, 1, 1))
        for change, diagonal in (
                (((1, 0, 0), (1, -1, 0), (0, 0, 0)), (1, 0, 0)), (((1, 0, 0), (1, -1, 0), (2, -2, 0)), (1, 0, 0)),
                (((1, 0, 0), (1, -1, 0), (1, -1, 0)), (1, 0, 0)), (((0, 0, 0), (0, 0, 0), (0, 0, 0)), (0, 0, 0)),
                (((1, -1, 0), (0, 1, -1), (1, 0, -1)), (0, 0, 0))):
            self.assertEqual(changed_table(table, change), diagonal_table(diagonal))
            self.assertIs(is_diagonal_paper(table, (change, diagonal)), False)

    def test_every_change_of_the_table_of_0(self):
        table = ((0, 0), (0, 0))
        for entries in product((-1, 0, (1, 2), 2), repeat=4):
            change = (entries[:2], entries[2:])
            self.assertIs(is_diagonal_paper(table, (change, (0, 0))),
                          exact_determinant(exact_rows(change)) != 0)

    def test_every_small_pair(self):
        for table in (SADDLE, FLAT, ((1, 1), (1, 1)), ((1, 0), (0, 1)), ((2, (1, 2)), ((1, 2), 0))):
            for entries in product((-1, 0, 1, 2), repeat=4):
                change = (entries[:2], entries[2:])
                changed = exact_changed(table, change)
                diagonal = tuple((row[at].numerator, row[at].denominator) for at, row in enumerate(changed))
                fine = changed[0][1] == 0 and exact_determinant(exact_rows(change)) != 0
                self.assertIs(is_diagonal_paper(table, (change, diagonal)), fine)

    def test_wrong_diagonals(self):
        change = ((1, 1), (1, -1))
        for diagonal in ((2, 2), (-2, 2), (2, -2, 0), (2,), (2, (-4, 2)), [2, -2], (2, None), (True, -2), (), None,
                         (2, -2, -2), ((2, 1), (-2, -1))):
            self.assertIs(is_diagonal_paper(SADDLE, (change, diagonal)), False)

    def test_what_is_no_pair_of_a_change_and_a_diagonal(self):
        change = ((1, 1), (1, -1))
        for value in NO_TABLES + ((change,), (change, (2, -2), ()), [change, (2, -2)], ((2, -2), change), change):
            self.assertIs(is_diagonal_paper(SADDLE, value), False)
        for value in NO_SQUARES_OF_TWO:
            self.assertIs(is_diagonal_paper(SADDLE, (value, (2, -2))), False)

    def test_true_is_not_1(self):
        identity = ((1, 0), (0, 1))
        self.assertIs(is_diagonal_paper(identity, (identity, (1, 1))), True)
        self.assertIs(is_diagonal_paper(identity, (identity, (1, True))), False)
        self.assertIs(is_diagonal_paper(identity, (((True, 0), (0, 1)), (1, 1))), False)


class RowTest(TablesTest):
    def test_values(self):
        for table in tables_of(2, (-1, 0, (1, 2), 3)):
            for row in product((0, 1, (-1, 3), -2), repeat=2):
                x, y = exact(row[0]), exact(row[1])
                (a, b), (_, c) = exact_rows(table)
                self.assertEqual(exact(value_at(table, row)), x * x * a + 2 * x * y * b + y * y * c)
                self.assertTrue(is_fraction(value_at(table, row)))
                self.assertIs(is_minus_row(table, row), x * x * a + 2 * x * y * b + y * y * c < 0)

    def test_values_at_the_edges(self):
        self.assertEqual([value_at(((3,),), ((1, 3),)), value_at(SADDLE, (SIXTY, (1, 2))), value_at(SADDLE, (0, 0))],
                         [(1, 3), (SIXTY, 1), (0, 1)])
        self.assertEqual(value_at(diagonal_table((1,) * 40), tuple(range(40))), (20540, 1))
        self.assertEqual(exact(value_at(LONG_TABLE, (LONG_FRACTION, 1))),
                         exact_changed(LONG_TABLE, ((LONG_FRACTION, 1),))[0][0])

    def test_minus_rows(self):
        for table in some_tables():
            row = minus_row(table)
            self.assertEqual(row is None, min(exact_parts(table)) >= 0)
            if row is not None:
                self.assert_fractions((row,))
                self.assertLess(exact_changed(table, (row,))[0][0], 0)
                self.assertIs(is_minus_row(table, row), True)

    def test_no_minus_rows(self):
        self.assertEqual([is_minus_row(SADDLE, (1, 1)), is_minus_row(SADDLE, (0, 1)), is_minus_row(SADDLE, (0, 0)),
                          is_minus_row(SADDLE, ((-1, 9), 9))], [False, False, False, True])
        for value in NO_ROWS_OF_TWO:
            self.assertIs(is_minus_row(((-1, 0), (0, -1)), value), False)

    def test_wrong_rows(self):
        for value in NO_ROWS_OF_TWO:
            with self.assertRaises(InvalidRow):
                value_at(SADDLE, value)
        for value in ((), (1, 2), 1):
            with self.assertRaises(InvalidRow):
                value_at(((1,),), value)


class MadeTableTest(TablesTest):
    def test_sums(self):
        for one in tables_of(2, (-1, 0, (1, 2))):
            for other in (SADDLE, FLAT, (((1, 3), 2), (2, (-1, 2)))):
                wanted = [[x + y for x, y in zip(row, other_row)]
                          for row, other_row in zip(exact_rows(one), exact_rows(other))]
                self.assert_table(table_sum(one, other), wanted)

    def test_sums_need_as_many_rows(self):
        many, fewer = diagonal_table((1,) * 40), diagonal_table((1,) * 39)
        for one, other in ((SADDLE, ((1,),)), (((1,),), SADDLE), (many, fewer), (fewer, many)):
            self.refused_operation(table_sum, one, other)
        self.assertEqual(table_sum(((SIXTY,),), ((1,),)), (((SIXTY_ONE, 1),),))

    def test_multiples(self):
        for number in (0, 1, -2, (1, 3), (0, 1), SIXTY, LONG_FRACTION):
            for table in (SADDLE, FLAT, ((SIXTY,),), LONG_TABLE):
                wanted = [[entry * exact(number) for entry in row] for row in exact_rows(table)]
                self.assert_table(table_scaled(table, number), wanted)

    def test_wrong_numbers(self):
        for value in ODD_VALUES:
            with self.assertRaises(InvalidNumber) as caught:
                table_scaled(SADDLE, value)
            self.assertIs(caught.exception.given, value)

    def test_parts(self):
        table = symmetric(5, lambda i, j: (i * 5 + j, 1) if i % 2 else i * 5 + j)
        entries = exact_rows(table)
        for many in range(1, 6):
            for places in combinations(range(5), many):
                self.assert_table(table_part(table, places), [[entries[i][j] for j in places] for i in places])
        self.assertEqual(table_part(symmetric(40, mixed), (39,)), (((mixed(39, 39), 1),),))

    def test_wrong_places(self):
        for value in ((), (1, 0), (0, 0), (0, 2), (-1,), (-1, 0), (2,), [0], [0, 1], (True,), (0, True), (False,),
                      ((0, 1),), (0, (1, 1)), ("0",), (None,), 0, None, "01", {0: 1}, True, (0, 1, 1), (0, SIXTY_ONE)):
            self.refused_operation(table_part, SADDLE, value)

    def test_changed_tables(self):
        for table in (SADDLE, FLAT, (((1, 2), -3), (-3, (5, 7))), LONG_TABLE):
            for change in (((1, 0), (0, 1)), ((0, 0), (0, 0)), ((1, (1, 2)), (-3, (2, 3))),
                           ((SIXTY, 1), (LONG_FRACTION, (1, 1)))):
                self.assert_table(changed_table(table, change), exact_changed(table, change))
        self.assertEqual(changed_table(((3,),), (((1, 3),),)), (((1, 3),),))

    def test_changes_of_forty_rows(self):
        change = tuple(tuple(mixed(i, j) if i >= j else 0 for j in range(40)) for i in range(40))
        table = symmetric(40, lambda i, j: mixed(i, j + 5))
        self.assert_table(changed_table(table, change), exact_changed(table, change))

    def test_wrong_changes(self):
        for value in NO_SQUARES_OF_TWO:
            self.refused_operation(changed_table, SADDLE, value)

    def test_the_type_stays_if_the_table_is_changed(self):
        for table in tables_of(2, (-1, 0, 1, (1, 2))):
            for change in (((1, 1), (0, 1)), ((0, 2), (-1, 0)), (((1, 2), 3), (1, 1))):
                self.assertEqual(type_of(changed_table(table, change)), type_of(table))


class KeptTest(TablesTest):
    def test_equal_calls_return_equal_results(self):
        for table in (SADDLE, FLAT, LONG_TABLE, gram(6, 4)):
            for call in (type_of, has_no_minus, diagonal_paper, minus_row, determinant):
                self.assertEqual(call(table), call(table))


class NotTrueTest(TablesTest):
    def test_entries_from_0_on_do_not_bar_a_minus(self):
        for table in (SADDLE, ((1, 2), (2, 1))):
            self.assertTrue(min(entry for row in table for entry in row) >= 0)
            self.assertFalse(has_no_minus(table))

    def test_first_parts_do_not_tell(self):
        for table in (FLAT, ((0, 0, 0), (0, 1, 2), (0, 2, 1)), ((0, 0, 1), (0, 0, 0), (1, 0, -1))):
            firsts = [determinant(table_part(table, tuple(range(k + 1)))) for k in range(len(table))]
            self.assertTrue(min(firsts)[0] >= 0)
            self.assertFalse(has_no_minus(table))
