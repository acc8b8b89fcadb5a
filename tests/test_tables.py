"""[32], with [2] to [5] as far as they speak of tables."""

import itertools
import math
import random
import unittest
from fractions import Fraction

from coinlaw.errors import NoTable
from coinlaw.tables import is_whole_table, whole_table
from helpers import NEITHER, THIRTY, TRUTHS, asked, no, otherwise, part_at, places, put, refused, same_kind, yes

MILLION = 1000000
BOTTOMS = (1, 2, 3, 7, 12, 999, 1000)
SMALL = (3, ((1, 2), (2, 1)))
WIDE = (7, ((1, 2, 3, 4, 5, 6), (14, 0, 7, 21, 1, 13)))
HIGH = (1000, ((1,), (999,), (500,), (0,), (MILLION,), (1500,)))
TABLES = (SMALL, WIDE, HIGH, (1, ((0,),)), (2, ((1,),)), (2, ((1, 1), (1, 1))), (10, ((5, 5, 5), (5, 5, 5), (5, 5, 5))))

NO_TABLES = (
    (), (1,), (1, ((1,),), 1), (((1,),), 1), [1, ((1,),)], (1, [(1,)]), (1, ([1],)), (1, ()), (1, ((),)), (1, ((), ())),
    (0, ((1,),)), (-1, ((1,),)), (1001, ((1,),)), (THIRTY, ((1,),)), (True, ((1,),)), (None, ((1,),)), ("1", ((1,),)),
    ((1,), ((1,),)), (1, (1,)), (1, 1), (1, None), (1, "1"), (1, ("1",)), (1, (("1",),)), (1, {0: (1,)}),
    (1, ((-1,),)), (1, ((MILLION + 1,),)), (1, ((THIRTY,),)), (1, ((True,),)), (1, ((False,),)), (1, ((None,),)),
    (1, ((1, 1), (1,))), (1, ((1,), (1, 1))), (1, ((1, 1), ())), (1, ((), (1,))), (1, ((1, 1), (1, 1), (1, 1, 1))),
    (1, ((1,),) * 7), (1, ((1,) * 7,)), (1, ((1,) * 7,) * 2), (1, ((1, 2), (3, True))), (1, ((1, 2), (3, -4))),
    (1, ((1, 2), (3, MILLION + 1))), (1, ((1, 2), [3, 4])), (1, (((1,),),)), (1, (([1],),)), (1, ((1,), None)),
)


def near(told, exact):
    return told in (math.floor(exact), math.ceil(exact))


def whole_by_look(table, thing):
    """Whether thing, of as many rows of as many whole numbers, is a whole table."""
    bottom, rows = table
    exact = [[Fraction(cell, bottom) for cell in row] for row in rows]
    if not all(near(told, cell) for line, row in zip(thing, exact) for told, cell in zip(line, row)):
        return False
    if not all(near(sum(line), sum(row)) for line, row in zip(thing, exact)):
        return False
    for at in range(len(rows[0])):
        if not near(sum(line[at] for line in thing), sum(row[at] for row in exact)):
            return False
    return near(sum(map(sum, thing)), sum(map(sum, exact)))


def fillings(bottom, high, wide, chance):
    """Rows of cells that are nought, whole, alike, few, about a half, many, the most and mixed."""
    makers = (
        lambda: 0, lambda: bottom, lambda: 1, lambda: MILLION, lambda: bottom // 2 + 1, lambda: chance.randint(0, 9),
        lambda: bottom * chance.randint(0, 1000), lambda: chance.randint(0, MILLION),
        lambda: chance.choice((0, 1, bottom, bottom - 1, bottom + 1, MILLION, chance.randint(0, 3 * bottom))),
    )
    for make in makers:
        yield tuple(tuple(make() for _ in range(wide)) for _ in range(high))


def many_tables():
    chance = random.Random(32)
    for high, wide in itertools.product(range(1, 7), repeat=2):
        for bottom in BOTTOMS:
            for rows in fillings(bottom, high, wide, chance):
                yield bottom, rows


class WholeTables(unittest.TestCase):
    def check(self, table):
        told = asked(self, whole_table, table)
        rows = table[1]
        self.assertIs(type(told), tuple)
        self.assertEqual([(type(line), len(line)) for line in told], [(tuple, len(row)) for row in rows])
        self.assertTrue(all(type(cell) is int for line in told for cell in line), told)
        self.assertTrue(whole_by_look(table, told), (table, told))
        self.assertIs(is_whole_table(table, told), True, (table, told))
        return told

    def test_where_there_is_only_one(self):
        same_kind(self, self.check((1, ((0,),))), ((0,),))
        same_kind(self, self.check((1, ((5, 0), (7, MILLION)))), ((5, 0), (7, MILLION)))
        same_kind(self, self.check((1000, ((MILLION,),))), ((1000,),))
        same_kind(self, self.check((4, ((8, 12), (0, 4), (16, 20)))), ((2, 3), (0, 1), (4, 5)))
        # the column is whole, and so the other one follows
        same_kind(self, self.check((2, ((2, 1, 1),)))[0][0], 1)

    def test_many(self):
        for table in many_tables():
            self.check(table)

    def test_all_small_ones(self):
        for bottom in (2, 3, 4):
            for cells in itertools.product(range(bottom + 1), repeat=4):
                self.check((bottom, (cells[:2], cells[2:])))
                self.check((bottom, (cells,)))

    def test_by_name(self):
        same_kind(self, asked(self, whole_table, table=(2, ((4,),))), ((2,),))
        self.assertIs(asked(self, is_whole_table, thing=((2,),), table=(2, ((4,),))), True)
        self.assertIs(asked(self, is_whole_table, thing=((1,),), table=(2, ((4,),))), False)


class OfAnything(unittest.TestCase):
    def test_by_hand(self):
        for thing in (((0, 1), (1, 0)), ((1, 0), (0, 1))):
            yes(self, is_whole_table, SMALL, thing)
        # 2/3 and 1/3: a row comes to 1, so neither both nor none
        for thing in (((0, 0), (1, 1)), ((1, 1), (0, 0)), ((0, 1), (0, 1)), ((1, 0), (1, 0)), ((0, 0), (0, 0)),
                      ((1, 1), (1, 1)), ((0, 2), (1, 0)), ((0, 1), (1, -1)), ((1, 0), (1, 1))):
            no(self, is_whole_table, SMALL, thing)

    def test_only_all_together_is_wrong(self):
        # 9 times 1/2: each row and each column may come to 1 or 2, all to 4 or 5
        table = (2, ((1,) * 3,) * 3)
        yes(self, is_whole_table, table, ((1, 1, 0), (0, 1, 1), (0, 0, 1)))
        yes(self, is_whole_table, table, ((1, 1, 0), (0, 0, 1), (0, 0, 1)))
        no(self, is_whole_table, table, ((1, 1, 0), (0, 1, 1), (1, 0, 1)))
        no(self, is_whole_table, table, ((1, 0, 0), (0, 1, 0), (0, 0, 1)))

    def test_only_a_row_or_a_column_is_wrong(self):
        table = (4, ((2, 2, 1), (2, 2, 1)))
        yes(self, is_whole_table, table, ((1, 0, 0), (0, 1, 0)))
        yes(self, is_whole_table, table, ((1, 0, 1), (0, 1, 0)))
        # the first row comes to 5/4
        no(self, is_whole_table, table, ((1, 1, 1), (0, 0, 0)))
        no(self, is_whole_table, table, ((0, 0, 0), (1, 1, 0)))
        # the last column comes to 1/2, the first one to 1
        no(self, is_whole_table, table, ((0, 1, 1), (0, 0, 1)))
        no(self, is_whole_table, table, ((0, 1, 0), (0, 1, 1)))

    def test_each_table_of_small_cells(self):
        for table in ((2, ((1, 1), (1, 1))), (3, ((1, 2), (2, 2))), (3, ((3, 1), (1, 4))), (1, ((0, 1), (1, 0))),
                      (5, ((4, 4), (4, 3))), (2, ((1, 1, 1, 1),)), (3, ((1,), (1,), (2,), (5,)))):
            high, wide = len(table[1]), len(table[1][0])
            for cells in itertools.product(range(-1, 4), repeat=4):
                thing = tuple(cells[at:at + wide] for at in range(0, 4, wide))
                self.assertEqual(len(thing), high)
                self.assertIs(is_whole_table(table, thing), whole_by_look(table, thing), (table, thing))

    def look(self, table, thing):
        self.assertIs(asked(self, is_whole_table, table, thing), whole_by_look(table, thing), (table, thing))

    def test_cells_otherwise(self):
        for table in itertools.islice(many_tables(), 0, None, 23):
            told = whole_table(table)
            spots = list(itertools.product(range(len(told)), range(len(told[0]))))
            for row, column in spots:
                for more in (1, -1, 2, THIRTY):
                    self.look(table, put(told, (row, column), told[row][column] + more))
            for (row, column), (down, across) in itertools.islice(itertools.permutations(spots, 2), 0, None, 7):
                moved = put(told, (row, column), told[row][column] + 1)
                self.look(table, put(moved, (down, across), moved[down][across] - 1))
            self.look(table, told[::-1])
            self.look(table, tuple(line[::-1] for line in told))
            for one, other in itertools.combinations(range(len(told)), 2):
                turned = list(told)
                turned[one], turned[other] = turned[other], turned[one]
                self.look(table, tuple(turned))

    def test_otherwise_formed(self):
        for table in TABLES + tuple(itertools.islice(many_tables(), 5, None, 97)):
            told = whole_table(table)
            no(self, is_whole_table, table, list(told))
            no(self, is_whole_table, table, told + told[:1])
            no(self, is_whole_table, table, told[1:])
            no(self, is_whole_table, table, (table[0], told))
            no(self, is_whole_table, table, dict(enumerate(told)))
            for at, line in enumerate(told):
                for new in (list(line), line + line[:1], line[1:], line[0], None, (), str(line), dict(enumerate(line))):
                    no(self, is_whole_table, table, put(told, (at,), new))
                for place, cell in enumerate(line):
                    for new in (None, str(cell), [cell], (cell,), {}) + TRUTHS:
                        no(self, is_whole_table, table, put(told, (at, place), new))

    def test_truths_are_no_cells(self):
        yes(self, is_whole_table, (2, ((2, 0),)), ((1, 0),))
        for thing in (((True, 0),), ((1, False),), ((True, False),)):
            no(self, is_whole_table, (2, ((2, 0),)), thing)

    def test_things_of_other_kinds(self):
        for table in TABLES:
            for thing in NEITHER + (0, 1, THIRTY, -1):
                no(self, is_whole_table, table, thing)
        for thing in otherwise(((2,),)):
            no(self, is_whole_table, (3, ((6,),)), thing)
        for thing in otherwise(((2, 0), (1, 5))):
            no(self, is_whole_table, (3, ((6, 0), (3, 15))), thing)


class Refusals(unittest.TestCase):
    def test_no_table(self):
        for thing in NEITHER + NO_TABLES + (0, 1):
            refused(self, NoTable, whole_table, thing)
            refused(self, NoTable, is_whole_table, thing, ((1,),))
            refused(self, NoTable, is_whole_table, thing, None)

    def test_a_place_otherwise(self):
        for path in places(SMALL):
            for new in (None, "", "1", [], {}, -1, THIRTY, (), (None,)) + TRUTHS:
                refused(self, NoTable, whole_table, put(SMALL, path, new))
                refused(self, NoTable, is_whole_table, put(SMALL, path, new), ((0, 1), (1, 0)))
            if isinstance(part_at(SMALL, path), tuple):
                refused(self, NoTable, whole_table, put(SMALL, path, list(part_at(SMALL, path))))

    def test_bounds(self):
        for table in ((1, ((0,),)), (1000, ((MILLION,),)), (1000, ((MILLION,) * 6,) * 6), (1, ((0,) * 6,)), HIGH, WIDE):
            whole_table(table)
            is_whole_table(table, None)


if __name__ == "__main__":
    unittest.main()
