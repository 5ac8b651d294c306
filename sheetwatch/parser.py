"""From texts of rules to trees."""

from sheetwatch.forms import (
    ANY_LEVEL, COMPARISONS, FUNCTIONS, OPERATORS, OPERATORS_WITH_LIMITS, PLAIN_LEVEL, PREFIXES_WITH_LIMITS,
    QUANTIFIERS, WORDS_OF_SIGNS,
)
from sheetwatch.reader import Reader


def parse(text):
    """The tree of a text of rules, the tuple of its items."""
    reader = Reader(text)
    items = []
    while reader.kind() != "end":
        items.append(_item(reader))
    return tuple(items)


def parse_rule(text):
    """The tree of a text that is one rule."""
    reader = Reader(text)
    rule = _rule(reader, ANY_LEVEL)
    reader.take_kind("end")
    return rule


def _item(reader):
    word = reader.take_one_of(("event", "def", "watch"))
    name = _name(reader)
    if word == "event":
        item = (word, name, _in_parentheses(reader, _kind))
    elif word == "def":
        item = (word, name, _in_parentheses(reader, _name), _rule_behind_sign(reader))
    else:
        item = (word, name, _rule_behind_sign(reader))
    reader.take(";")
    return item


def _rule_behind_sign(reader):
    reader.take("=")
    return _rule(reader, ANY_LEVEL)


def _rule(reader, need):
    """A rule whose level is not less than the needed one, with all operators that can belong to it."""
    rule = _plain(reader)
    level = PLAIN_LEVEL
    while reader.word() in OPERATORS:
        own, left, right = OPERATORS[reader.word()]
        if own < need or level < left:
            break
        word = reader.step()
        limits = _limits(reader) if word in OPERATORS_WITH_LIMITS else ()
        rule = (word, *limits, rule, _rule(reader, right))
        level = own
    return rule


def _plain(reader):
    word = reader.word()
    if word == "not":
        return (reader.step(), _plain(reader))
    if word in ("true", "false"):
        return (reader.step(),)
    if word == "(":
        reader.step()
        rule = _rule(reader, ANY_LEVEL)
        reader.take(")")
        return rule
    if word in QUANTIFIERS:
        return _quantified(reader)
    if word in PREFIXES_WITH_LIMITS:
        reader.step()
        low, high = _limits(reader)
        return (word, low, high, _plain(reader))
    if reader.kind() == "name" and reader.word(1) == "(":
        return ("call", _name(reader), _in_parentheses(reader, _basic))
    if reader.kind() == "name" and reader.word(1) == "=" and reader.word(2) in FUNCTIONS:
        return _group(reader)
    return _compare(reader)


def _quantified(reader):
    word = reader.step()
    names = _with_commas(reader, _name)
    reader.take(".")
    return (word, names, _plain(reader))


def _group(reader):
    x = _name(reader)
    reader.take("=")
    function = reader.take_one_of(FUNCTIONS)
    reader.take("(")
    y = _name(reader) if reader.kind() == "name" else None
    names = ()
    if reader.word() == ";":
        reader.step()
        names = _with_commas(reader, _name)
    reader.take(")")
    reader.take("of")
    return ("group", x, function, y, names, _plain(reader))


def _compare(reader):
    left = _term(reader)
    sign = reader.take_one_of(COMPARISONS)
    return ("compare", sign, left, _term(reader))


def _limits(reader):
    """The pair of the limits that stand here, or that of limits left out."""
    if reader.word() != "[":
        return (0, None)
    reader.step()
    low = int(reader.take_kind("number"))
    reader.take(",")
    high = None
    if reader.word() == "*":
        reader.step()
    else:
        high = int(reader.take_kind("number"))
    reader.take("]")
    return (low, high)


def _term(reader):
    term = _basic(reader)
    while reader.word() in WORDS_OF_SIGNS:
        word = WORDS_OF_SIGNS[reader.step()]
        term = (word, term, _basic(reader))
    return term


def _basic(reader):
    kind = reader.kind()
    if kind == "number":
        return ("num", int(reader.step()))
    if kind == "text":
        return ("text", reader.step())
    return ("name", _name(reader))


def _name(reader):
    return reader.take_kind("name")


def _kind(reader):
    return reader.take_one_of(("number", "word"))


def _in_parentheses(reader, part):
    """The tuple of the parts between two parentheses, which may be none."""
    reader.take("(")
    parts = ()
    if reader.word() != ")":
        parts = _with_commas(reader, part)
    reader.take(")")
    return parts


def _with_commas(reader, part):
    """The tuple of one or more parts with commas between them."""
    parts = [part(reader)]
    while reader.word() == ",":
        reader.step()
        parts.append(part(reader))
    return tuple(parts)
