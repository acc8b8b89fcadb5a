"""Whole tables: each cell, row, column and all of a table rounded down or up, so that the sums are right."""

from coinlaw.errors import NoTable
from coinlaw.kinds import is_tuple_of, is_whole, is_within


def is_table(thing):
    if not is_tuple_of(thing, 2, 2):
        return False
    bottom, rows = thing
    if not is_within(bottom, 1, 1000) or not is_tuple_of(rows, 1, 6) or not is_tuple_of(rows[0], 1, 6):
        return False
    return are_rows(rows, len(rows[0])) and all([is_within(cell, 0, 1000000) for row in rows for cell in row])


def are_rows(rows, many):
    """Whether each row is a tuple of so many."""
    return all([is_tuple_of(row, many, many) for row in rows])


def whole_table(table):
    """Some whole table."""
    refuse_no_table(table)
    bottom, rows = table
    cells = with_sums(rows)
    ties = broken_ties(cells, bottom)
    while ties:
        shift(cells, bottom, ring_in(ties))
        ties = broken_ties(cells, bottom)
    return tuple([tuple([cell // bottom for cell in row[:-1]]) for row in cells[:-1]])


def with_sums(rows):
    """The rows, with one more cell in each and one more row, such that each row and each column comes to nought."""
    # So the sums are cells, too, and what keeps each cell between its roundings keeps each sum there.
    wide = [[*row, -sum(row)] for row in rows]
    return [*wide, [-sum(column) for column in zip(*wide)]]


def broken_ties(cells, bottom):
    """For each row, and each column (numbered behind the rows), the lines that cross it at a cell that is not whole."""
    many = len(cells)
    ties = {}
    for at, row in enumerate(cells):
        for place, cell in enumerate(row):
            if cell % bottom:
                ties.setdefault(at, []).append(many + place)
                ties.setdefault(many + place, []).append(at)
    return ties


def ring_in(ties):
    """Some lines, each of which crosses the next one, and the last one the first."""
    walk = []
    here = list(ties)[0]
    while here not in walk:
        # There is a way on: a line that comes to nought has no single cell that is not whole.
        ways = [line for line in ties[here] if line not in walk[-1:]]
        walk.append(here)
        here = ways[0]
    return walk[walk.index(here):]


def shift(cells, bottom, ring):
    """Makes the cells where the ring's lines cross more and less by turns, until one of them is whole."""
    many = len(cells)
    places = [(min(one, other), max(one, other) - many) for one, other in zip(ring, ring[1:] + ring[:1])]
    # A ring has as many rows as columns, so each line has a cell made more and one made less: its sum stays.
    more = places[::2]
    less = places[1::2]
    rooms = [bottom - cells[row][column] % bottom for row, column in more]
    step = min(rooms + [cells[row][column] % bottom for row, column in less])
    for row, column in more:
        cells[row][column] += step
    for row, column in less:
        cells[row][column] -= step


def is_whole_table(table, thing):
    """Whether thing is a whole table of the table."""
    refuse_no_table(table)
    bottom, rows = table
    high = len(rows)
    wide = len(rows[0])
    if not is_tuple_of(thing, high, high) or not are_rows(thing, wide):
        return False
    if not all([is_whole(cell) for row in thing for cell in row]):
        return False
    sums = [sum(line) for line in lines_of(rows)]
    return all([is_rounding(sum(line), exact, bottom) for line, exact in zip(lines_of(thing), sums)])


def lines_of(rows):
    """Each cell by itself, each row, each column, and all cells together."""
    cells = [cell for row in rows for cell in row]
    return [[cell] for cell in cells] + list(rows) + list(zip(*rows)) + [cells]


def is_rounding(told, top, bottom):
    """Whether told is top divided by bottom rounded down or up."""
    # Just these are less than 1 away, and of what is whole nothing but itself.
    return -bottom < told * bottom - top < bottom


def refuse_no_table(thing):
    if not is_table(thing):
        raise NoTable("a table is a tuple of a bottom and of rows of cells, all of the same number")
