"""Values and tables."""

UNIT = ((), ((),))


def empty(columns):
    """The table of a tuple of ascending columns without rows."""
    return (columns, ())


def make_table(columns, rows):
    """The table of different columns in any order, and of rows with values in this order."""
    kept = tuple(sorted(columns))
    return (kept, rows_in_order(_values_in((columns, rows), kept)))


def rows_in_order(rows):
    """The tuple of the different ones of some rows, which ascend."""
    # A dict leaves out doubles.
    different = {row: True for row in rows}
    return tuple(sorted(different, key=_order_of_row))


def join(one, other):
    """The table with the columns of both, and the rows whose values in the columns of each are a row of it."""
    shared = [column for column in one[0] if column in other[0]]
    added = [column for column in other[0] if column not in one[0]]
    partners = {}
    for key, values in zip(_values_in(other, shared), _values_in(other, added)):
        partners.setdefault(key, []).append(values)
    rows = []
    for key, row in zip(_values_in(one, shared), one[1]):
        rows.extend([(*row, *values) for values in partners.get(key, [])])
    return make_table((*one[0], *added), rows)


def minus(one, other):
    """The table of the rows of the first one whose values in the columns of the second are no row of it."""
    gone = {row: True for row in other[1]}
    kept = [row for key, row in zip(_values_in(one, other[0]), one[1]) if key not in gone]
    return (one[0], tuple(kept))


def union(one, other):
    """The table of the rows of two tables with the same columns."""
    return make_table(one[0], [*one[1], *other[1]])


def keep(table, columns):
    """The table without its other columns."""
    return make_table(columns, _values_in(table, columns))


def select(table, sign, a, b):
    """The table of the rows in which a comparison of two terms holds."""
    kept = []
    for row in table[1]:
        values = dict(zip(table[0], row))
        if compares(sign, value_of(a, values), value_of(b, values)):
            kept.append(row)
    return (table[0], tuple(kept))


def extend(table, name, term):
    """The table with a column more, which has the value of a term in each row."""
    columns, rows = table
    return make_table((*columns, name), [(*row, value_of(term, dict(zip(columns, row)))) for row in rows])


def group(table, x, function, y, names):
    """The table of a function's values, in the column x, for each choice of values of some columns that occurs."""
    measured = names if y is None else (y,)
    found = {}
    for key, values in zip(_values_in(table, names), _values_in(table, measured)):
        found.setdefault(key, []).append(values)
    return make_table((*names, x), [(*key, value_over(function, rows)) for key, rows in found.items()])


def value_of(term, values):
    """The value of a term; values is a dict from its names to values."""
    word = term[0]
    if word == "name":
        return values[term[1]]
    if word == "plus":
        return value_of(term[1], values) + value_of(term[2], values)
    if word == "less":
        return value_of(term[1], values) - value_of(term[2], values)
    return term[1]


def compares(sign, a, b):
    """Whether a comparison of two values holds; those by < and <= hold of numbers alone."""
    if sign == "=":
        return a == b
    if not (isinstance(a, int) and isinstance(b, int)):
        return False
    return a < b if sign == "<" else a <= b


def order_of(value):
    """What a value is compared by: numbers come before words."""
    return (0, value) if isinstance(value, int) else (1, value)


def _order_of_row(row):
    return [order_of(value) for value in row]


def _values_in(table, kept):
    """The list of the values that the rows of a table have in some of its columns, a tuple for each row."""
    columns, rows = table
    places = [columns.index(column) for column in kept]
    return [tuple([row[place] for place in places]) for row in rows]


def value_over(function, rows):
    """The function's value over rows, each of which has for sums and the like one value."""
    if function == "count":
        return len(rows)
    values = [row[0] for row in rows]
    if function == "sum":
        return sum(values)
    return min(values) if function == "least" else max(values)
