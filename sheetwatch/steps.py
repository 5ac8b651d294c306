"""The tables of core rules, made from points and from the tables of their parts."""

from sheetwatch.logs import rows_of_event
from sheetwatch.parts import names_in_terms
from sheetwatch.tables import UNIT, empty, extend, group, join, keep, make_table, minus, select, union


def table_of_point(core, point):
    """The table of an event, a compare that is a table, or true at a point."""
    if core[0] == "event":
        return _table_of_event(core[2], rows_of_event(point, core[1]))
    if core[0] == "compare":
        return _table_of_compare(core)
    return UNIT


def _table_of_event(basics, rows):
    columns = names_in_terms(basics)
    meant = []
    for row in rows:
        values = _values_of_names(basics, row)
        if values is not None:
            meant.append([values[column] for column in columns])
    return make_table(columns, meant)


def _values_of_names(basics, row):
    """The dict from the names of an event to their values in a row; None if the row is not meant."""
    values = {}
    for basic, value in zip(basics, row):
        wanted = values.setdefault(basic[1], value) if basic[0] == "name" else basic[1]
        if wanted != value:
            return None
    return values


def _table_of_compare(core):
    _, sign, a, b = core
    if a[0] == "name":
        return extend(UNIT, a[1], b)
    if b[0] == "name":
        return extend(UNIT, b[1], a)
    return select(UNIT, sign, a, b)


def table_over(how, core, table):
    """The table that a core rule makes of another table.

    How is "not", "some" or "group", the word of the rule, or "fitted" if it is a compare or the not of one that fits
    the table.
    """
    if how == "not":
        return empty(()) if table[1] else UNIT
    if how == "some":
        return keep(table, tuple([column for column in table[0] if column != core[1]]))
    if how == "group":
        _, x, function, y, names, _ = core
        return group(table, x, function, y, names)
    if core[0] == "not":
        return minus(table, _fitted(table, core[1]))
    return _fitted(table, core)


def _fitted(table, compare):
    """The rows of a table for which a compare holds, with a new column if the compare tells one."""
    _, sign, a, b = compare
    for side, term in ((a, b), (b, a)):
        if side[0] == "name" and side[1] not in table[0]:
            return extend(table, side[1], term)
    return select(table, sign, a, b)


def combined(how, one, other):
    """The join, the union, or the first one minus the second, of two tables."""
    if how == "join":
        return join(one, other)
    return union(one, other) if how == "union" else minus(one, other)


def union_of(columns, tables):
    """The union of any number of tables with these columns."""
    rows = []
    for table in tables:
        rows.extend(table[1])
    return make_table(columns, rows)
