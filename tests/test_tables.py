"""Points 3.1 to 3.6: values and tables."""

import itertools
import random
import unittest

from sheetwatch.tables import (
    UNIT, compares, empty, extend, group, join, keep, make_table, minus, order_of, select, union, value_of,
)

A = ("name", "a")
B = ("name", "b")
NONE = ((), ())
TABLE = (("a", "b"), ((1, "x"), (1, "y"), (2, "x"), (10, "x")))


def num(number):
    return ("num", number)


class ValuesTest(unittest.TestCase):
    """Point 3.1, and terms and comparisons in point 3.5."""

    def test_order(self):
        self.assertEqual(order_of(-7), (0, -7))
        self.assertEqual(order_of(0), (0, 0))
        self.assertEqual(order_of(""), (1, ""))
        self.assertEqual(order_of("3"), (1, "3"))
        ascending = [-10, -9, 0, 2, 10, "", "-1", "10", "2", "A", "B", "a", "aa", "b"]
        self.assertEqual(sorted(reversed(ascending), key=order_of), ascending)

    def test_values_of_terms(self):
        values = {"a": 5, "b": "word", "a.1": 7}
        self.assertEqual(value_of(A, values), 5)
        self.assertEqual(value_of(B, values), "word")
        self.assertEqual(value_of(("name", "a.1"), values), 7)
        self.assertEqual(value_of(num(3), {}), 3)
        self.assertEqual(value_of(("text", "a"), values), "a")
        self.assertEqual(value_of(("plus", A, num(3)), values), 8)
        self.assertEqual(value_of(("less", A, num(8)), values), -3)
        self.assertEqual(value_of(("less", ("less", A, num(1)), ("name", "a.1")), values), -3)
        self.assertEqual(value_of(("plus", ("less", num(1), A), A), values), 1)
        self.assertEqual(values, {"a": 5, "b": "word", "a.1": 7})

    def test_long_sums(self):
        term = A
        for number in range(200):
            term = ("plus", term, num(number))
        self.assertEqual(value_of(term, {"a": 1}), 1 + sum(range(200)))

    def test_comparisons(self):
        cases = {
            (1, 2): (False, True, True), (2, 2): (True, False, True), (3, 2): (False, False, False),
            (-2, -1): (False, True, True), (10, 9): (False, False, False),
        }
        for (a, b), expected in cases.items():
            for sign, holds in zip(("=", "<", "<="), expected):
                self.assertIs(compares(sign, a, b), holds, (sign, a, b))
        self.assertIs(compares("=", "a", "a"), True)
        self.assertIs(compares("=", "a", "b"), False)
        self.assertIs(compares("=", 1, "1"), False)

    def test_less_holds_of_numbers_alone(self):
        for sign in ("<", "<="):
            for a, b in (("a", "b"), ("a", "a"), (1, "a"), ("a", 1)):
                self.assertIs(compares(sign, a, b), False, (sign, a, b))


class TablesTest(unittest.TestCase):
    """Points 3.2 to 3.5."""

    def test_unit_and_empty(self):
        self.assertEqual(UNIT, ((), ((),)))
        self.assertEqual(empty(()), ((), ()))
        self.assertEqual(empty(("a", "b")), (("a", "b"), ()))

    def test_making(self):
        self.assertEqual(make_table((), []), NONE)
        self.assertEqual(make_table((), [()]), UNIT)
        self.assertEqual(make_table((), [(), ()]), UNIT)
        self.assertEqual(make_table(("b", "a"), []), empty(("a", "b")))
        self.assertEqual(make_table(("a",), [(3,), (1,), (3,)]), (("a",), ((1,), (3,))))
        self.assertEqual(make_table(("b", "a"), [("x", 10), ("y", 1), ("x", 2), ("x", 1), ("y", 1)]), TABLE)
        self.assertEqual(make_table(("c", "a", "b"), [(3, 1, 2)]), (("a", "b", "c"), ((1, 2, 3),)))
        self.assertEqual(make_table(("a.2", "a.10", "a", "Z"), [(1, 2, 3, 4)]), (
            ("Z", "a", "a.10", "a.2"), ((4, 3, 2, 1),),
        ))

    def test_rows_ascend_with_numbers_before_words(self):
        rows = [("b",), ("10",), (10,), ("2",), (9,), (-1,), ("",), ("B",)]
        self.assertEqual(make_table(("a",), rows), (
            ("a",), ((-1,), (9,), (10,), ("",), ("10",), ("2",), ("B",), ("b",)),
        ))
        self.assertEqual(make_table(("a", "b"), [("x", 2), ("x", "1"), (5, "z"), (5, 7)])[1], (
            (5, 7), (5, "z"), ("x", 2), ("x", "1"),
        ))

    def test_rows_are_tuples_and_what_is_passed_stays(self):
        rows = [["y", 2], ["x", 1], ["x", 1]]
        table = make_table(("b", "a"), rows)
        self.assertEqual(table, (("a", "b"), ((1, "x"), (2, "y"))))
        self.assertEqual(rows, [["y", 2], ["x", 1], ["x", 1]])
        rows[0][1] = 7
        rows.clear()
        self.assertEqual(table, (("a", "b"), ((1, "x"), (2, "y"))))
        for part in (table[1], *table[1]):
            self.assertIsInstance(part, tuple)

    def test_join(self):
        other = (("b", "c"), (("x", 7), ("x", 8), ("z", 9)))
        joined = (("a", "b", "c"), (
            (1, "x", 7), (1, "x", 8), (2, "x", 7), (2, "x", 8), (10, "x", 7), (10, "x", 8),
        ))
        self.assertEqual(join(TABLE, other), joined)
        self.assertEqual(join(other, TABLE), joined)
        self.assertEqual(join(TABLE, TABLE), TABLE)

    def test_join_of_unlike_columns(self):
        self.assertEqual(join((("b",), ((1,), (2,))), (("a",), (("y",), ("z",)))), (
            ("a", "b"), (("y", 1), ("y", 2), ("z", 1), ("z", 2)),
        ))

    def test_join_with_tables_without_columns_or_rows(self):
        self.assertEqual(join(TABLE, UNIT), TABLE)
        self.assertEqual(join(UNIT, TABLE), TABLE)
        self.assertEqual(join(UNIT, UNIT), UNIT)
        self.assertEqual(join(UNIT, NONE), NONE)
        self.assertEqual(join(TABLE, NONE), empty(("a", "b")))
        self.assertEqual(join(NONE, TABLE), empty(("a", "b")))
        self.assertEqual(join(TABLE, empty(("b", "c"))), empty(("a", "b", "c")))
        self.assertEqual(join(empty(("c",)), TABLE), empty(("a", "b", "c")))

    def test_minus(self):
        self.assertEqual(minus(TABLE, (("b",), (("x",),))), (("a", "b"), ((1, "y"),)))
        self.assertEqual(minus(TABLE, (("a",), ((1,), (3,)))), (("a", "b"), ((2, "x"), (10, "x"))))
        self.assertEqual(minus(TABLE, (("a", "b"), ((1, "x"), (2, "y")))), (
            ("a", "b"), ((1, "y"), (2, "x"), (10, "x")),
        ))
        self.assertEqual(minus(TABLE, TABLE), empty(("a", "b")))

    def test_minus_with_tables_without_columns_or_rows(self):
        self.assertEqual(minus(TABLE, UNIT), empty(("a", "b")))
        self.assertEqual(minus(TABLE, NONE), TABLE)
        self.assertEqual(minus(TABLE, empty(("b",))), TABLE)
        self.assertEqual(minus(UNIT, NONE), UNIT)
        self.assertEqual(minus(UNIT, UNIT), NONE)
        self.assertEqual(minus(NONE, UNIT), NONE)
        self.assertEqual(minus(empty(("a",)), (("a",), ((1,),))), empty(("a",)))

    def test_union(self):
        other = (("a", "b"), ((0, "z"), (1, "y"), (9, "")))
        both = (("a", "b"), ((0, "z"), (1, "x"), (1, "y"), (2, "x"), (9, ""), (10, "x")))
        self.assertEqual(union(TABLE, other), both)
        self.assertEqual(union(other, TABLE), both)
        self.assertEqual(union(TABLE, TABLE), TABLE)
        self.assertEqual(union(TABLE, empty(("a", "b"))), TABLE)
        self.assertEqual(union(empty(("a",)), empty(("a",))), empty(("a",)))
        self.assertEqual(union(UNIT, NONE), UNIT)
        self.assertEqual(union(NONE, UNIT), UNIT)
        self.assertEqual(union(UNIT, UNIT), UNIT)
        self.assertEqual(union(NONE, NONE), NONE)
        self.assertEqual(union((("a",), (("1",),)), (("a",), ((2,),))), (("a",), ((2,), ("1",))))

    def test_keep(self):
        self.assertEqual(keep(TABLE, ("a",)), (("a",), ((1,), (2,), (10,))))
        self.assertEqual(keep(TABLE, ("b",)), (("b",), (("x",), ("y",))))
        self.assertEqual(keep(TABLE, ("a", "b")), TABLE)
        self.assertEqual(keep(TABLE, ("b", "a")), TABLE)
        self.assertEqual(keep(TABLE, ()), UNIT)
        self.assertEqual(keep(empty(("a", "b")), ()), NONE)
        self.assertEqual(keep(empty(("a", "b")), ("b",)), empty(("b",)))
        self.assertEqual(keep(UNIT, ()), UNIT)

    def test_select(self):
        self.assertEqual(select(TABLE, "=", A, num(1)), (("a", "b"), ((1, "x"), (1, "y"))))
        self.assertEqual(select(TABLE, "=", ("text", "x"), B), (("a", "b"), ((1, "x"), (2, "x"), (10, "x"))))
        self.assertEqual(select(TABLE, "<", A, num(2)), (("a", "b"), ((1, "x"), (1, "y"))))
        self.assertEqual(select(TABLE, "<=", A, num(2)), (("a", "b"), ((1, "x"), (1, "y"), (2, "x"))))
        self.assertEqual(select(TABLE, "<", num(2), A), (("a", "b"), ((10, "x"),)))
        self.assertEqual(select(TABLE, "=", ("plus", A, A), ("less", num(12), A)), empty(("a", "b")))
        self.assertEqual(select(TABLE, "=", ("plus", A, A), ("plus", num(2), A)), (("a", "b"), ((2, "x"),)))
        self.assertEqual(select(UNIT, "<", num(1), num(2)), UNIT)
        self.assertEqual(select(UNIT, "<", num(2), num(2)), NONE)
        self.assertEqual(select(empty(("a",)), "=", A, A), empty(("a",)))

    def test_extend(self):
        self.assertEqual(extend(TABLE, "c", ("plus", A, num(1))), (
            ("a", "b", "c"), ((1, "x", 2), (1, "y", 2), (2, "x", 3), (10, "x", 11)),
        ))
        self.assertEqual(extend(TABLE, "a1", B), (
            ("a", "a1", "b"), ((1, "x", "x"), (1, "y", "y"), (2, "x", "x"), (10, "x", "x")),
        ))
        # The new column comes first, so the rows have another order.
        self.assertEqual(extend(TABLE, "Z", ("less", num(0), A)), (
            ("Z", "a", "b"), ((-10, 10, "x"), (-2, 2, "x"), (-1, 1, "x"), (-1, 1, "y")),
        ))
        self.assertEqual(extend(UNIT, "a", ("text", "word")), (("a",), (("word",),)))
        self.assertEqual(extend(empty(("b",)), "a", B), empty(("a", "b")))
        self.assertEqual(extend(NONE, "a", num(3)), empty(("a",)))


class GroupTest(unittest.TestCase):
    """Point 3.6."""

    SALES = (("price", "shop", "who"), (
        (-4, "n", "ann"), (-4, "n", "bob"), (3, "n", "ann"), (3, "s", "ann"), (20, "s", "eve"),
    ))

    def test_by_one_column(self):
        self.assertEqual(group(self.SALES, "x", "count", None, ("shop",)), (("shop", "x"), (("n", 3), ("s", 2))))
        self.assertEqual(group(self.SALES, "x", "sum", "price", ("shop",)), (("shop", "x"), (("n", -5), ("s", 23))))
        self.assertEqual(group(self.SALES, "x", "least", "price", ("shop",)), (("shop", "x"), (("n", -4), ("s", 3))))
        self.assertEqual(group(self.SALES, "x", "most", "price", ("shop",)), (("shop", "x"), (("n", 3), ("s", 20))))

    def test_without_columns_to_group_by(self):
        self.assertEqual(group(self.SALES, "x", "count", None, ()), (("x",), ((5,),)))
        for function, value in (("sum", 18), ("least", -4), ("most", 20)):
            self.assertEqual(group(self.SALES, "x", function, "price", ()), (("x",), ((value,),)))

    def test_columns_and_rows_ascend(self):
        by_who = (("a", "who"), ((1, "bob"), (1, "eve"), (3, "ann")))
        self.assertEqual(group(self.SALES, "a", "count", None, ("who",)), by_who)
        by_two = (("a", "shop", "who"), ((-4, "n", "bob"), (-1, "n", "ann"), (3, "s", "ann"), (20, "s", "eve")))
        self.assertEqual(group(self.SALES, "a", "sum", "price", ("shop", "who")), by_two)
        self.assertEqual(group(self.SALES, "a", "sum", "price", ("who", "shop")), by_two)

    def test_y_may_be_a_column_to_group_by(self):
        self.assertEqual(group(self.SALES, "x", "sum", "price", ("price",)), (
            ("price", "x"), ((-4, -8), (3, 6), (20, 20)),
        ))
        self.assertEqual(group(self.SALES, "x", "most", "price", ("price",)), (
            ("price", "x"), ((-4, -4), (3, 3), (20, 20)),
        ))

    def test_by_all_columns(self):
        self.assertEqual(group(self.SALES, "x", "count", None, self.SALES[0]), (
            ("price", "shop", "who", "x"), tuple([(*row, 1) for row in self.SALES[1]]),
        ))

    def test_tables_without_rows(self):
        for function, y in (("count", None), ("sum", "a"), ("least", "a"), ("most", "a")):
            self.assertEqual(group(empty(("a", "b")), "x", function, y, ("b",)), empty(("b", "x")))
            self.assertEqual(group(empty(("a", "b")), "a1", function, y, ("a", "b")), empty(("a", "a1", "b")))
            self.assertEqual(group(empty(("a", "b")), "x", function, y, ()), empty(("x",)))
        self.assertEqual(group(NONE, "x", "count", None, ()), empty(("x",)))

    def test_a_table_without_columns(self):
        self.assertEqual(group(UNIT, "x", "count", None, ()), (("x",), ((1,),)))


class DefinitionTest(unittest.TestCase):
    """Tables at random, against what the points say of each row that there may be."""

    VALUES = {"a": (1, 2, 10), "b": ("", "10", "2"), "c": (-1, 0), "d": (1, "1")}

    def all_rows(self, columns):
        return list(itertools.product(*[self.VALUES[column] for column in columns]))

    def random_table(self, source, columns):
        rows = [row for row in self.all_rows(columns) if source.random() < 0.6]
        source.shuffle(rows)
        return make_table(columns, rows)

    def table_of_those(self, columns, test):
        """The table of the rows that pass a test; rows of all values are made in ascending order."""
        rows = [row for row in self.all_rows(columns) if test(dict(zip(columns, row)))]
        return (tuple(columns), tuple(rows))

    def has(self, table, values):
        return tuple([values[column] for column in table[0]]) in table[1]

    def test_operations(self):
        source = random.Random(7)
        for _ in range(200):
            columns = [sorted(source.sample("abcd", source.randrange(4))) for _ in range(2)]
            one, other = [self.random_table(source, tuple(names)) for names in columns]
            third = self.random_table(source, tuple(columns[0]))
            both = sorted(set(columns[0] + columns[1]))
            self.assertEqual(join(one, other), self.table_of_those(
                both, lambda row: self.has(one, row) and self.has(other, row),
            ))
            self.assertEqual(union(one, third), self.table_of_those(
                columns[0], lambda row: self.has(one, row) or self.has(third, row),
            ))
            joined = join(one, other)
            self.assertEqual(minus(joined, third), self.table_of_those(
                both, lambda row: self.has(joined, row) and not self.has(third, row),
            ))
            self.assertEqual(keep(joined, tuple(columns[1])), self.table_of_those(
                columns[1], lambda row: any(self.part_of(row, wider, joined[0]) for wider in joined[1]),
            ))

    def part_of(self, row, wider, columns):
        values = dict(zip(columns, wider))
        return all(values[column] == row[column] for column in row)
