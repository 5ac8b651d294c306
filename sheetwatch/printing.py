"""From trees to texts of rules."""

from sheetwatch.forms import (
    OPERATORS, OPERATORS_WITH_LIMITS, PLAIN_LEVEL, PREFIXES_WITH_LIMITS, QUANTIFIERS, SIGNS_OF_WORDS,
)


def print_rules(tree):
    """The text of a tree of rules, a row for each item."""
    return "".join([f"{_item(item)}\n" for item in tree])


def print_rule(rule):
    """The text of the tree of one rule, without a newline."""
    word = rule[0]
    if word in OPERATORS:
        return _operation(rule)
    if word in QUANTIFIERS:
        names = _with_commas(rule[1])
        return f"{word} {names}. {_placed(rule[2], PLAIN_LEVEL)}"
    if word in PREFIXES_WITH_LIMITS:
        return f"{word}{_limits(rule[1], rule[2])} {_placed(rule[3], PLAIN_LEVEL)}"
    if word == "not":
        return f"not {_placed(rule[1], PLAIN_LEVEL)}"
    if word == "group":
        return _group(rule)
    if word == "call":
        basics = _with_commas([_basic(basic) for basic in rule[2]])
        return f"{rule[1]}({basics})"
    if word == "compare":
        return f"{_term(rule[2])} {rule[1]} {_term(rule[3])}"
    return word


def _item(item):
    word, name = item[:2]
    if word == "event":
        return f"event {name}({_with_commas(item[2])});"
    if word == "def":
        return f"def {name}({_with_commas(item[2])}) = {print_rule(item[3])};"
    return f"watch {name} = {print_rule(item[2])};"


def _operation(rule):
    word = rule[0]
    _, left, right = OPERATORS[word]
    limits = _limits(rule[1], rule[2]) if word in OPERATORS_WITH_LIMITS else ""
    return f"{_placed(rule[-2], left)} {word}{limits} {_placed(rule[-1], right)}"


def _placed(rule, need):
    """The text of a rule at a place that needs a level."""
    text = print_rule(rule)
    level = OPERATORS[rule[0]][0] if rule[0] in OPERATORS else PLAIN_LEVEL
    return f"({text})" if level < need else text


def _group(rule):
    _, x, function, y, names, part = rule
    inside = "" if y is None else y
    if names != ():
        inside = f"{inside}; {_with_commas(names)}"
    return f"{x} = {function}({inside}) of {_placed(part, PLAIN_LEVEL)}"


def _limits(low, high):
    if low == 0 and high is None:
        return ""
    top = "*" if high is None else high
    return f"[{low}, {top}]"


def _term(term):
    """The text of a term; a loop, so that a long sum needs no deep recursion."""
    parts = []
    while term[0] in SIGNS_OF_WORDS:
        word, left, right = term
        parts.append(f"{SIGNS_OF_WORDS[word]} {_basic(right)}")
        term = left
    parts.append(_basic(term))
    return " ".join(reversed(parts))


def _basic(basic):
    word, content = basic
    return f'"{content}"' if word == "text" else f"{content}"


def _with_commas(words):
    return ", ".join(words)
