"""What is known in claims, where a name has a value or is another one than some values.

A dict tells for each name a pair: (IS, value), or (OTHER, the tuple of the values that it is not).
"""

from sheetwatch.forms import SIGNS_OF_WORDS
from sheetwatch.tables import compares

IS = "is"
OTHER = "other"
# What is known of a name that nothing is told of.
ANY = ("other", ())


def is_value(value):
    """Whether something is a value."""
    return is_number(value) or isinstance(value, str)


def is_number(value):
    """Whether something is an integer; True and False are none."""
    return isinstance(value, int) and not isinstance(value, bool)


def known_value(term, known):
    """The value of a term; None if a name in it has no value, or a side of a sum is no number."""
    if term[0] == "name":
        how, told = known.get(term[1], ANY)
        return told if how == IS else None
    if term[0] not in SIGNS_OF_WORDS:
        return term[1]
    left = known_value(term[1], known)
    right = known_value(term[2], known)
    if not is_number(left) or not is_number(right):
        return None
    return left + right if term[0] == "plus" else left - right


def known_comparison(core, known):
    """Whether a compare is known to hold (True), known not to hold (False), or not known (None)."""
    _, sign, a, b = core
    left = known_value(a, known)
    right = known_value(b, known)
    if sign != "=":
        return compares(sign, left, right) if is_number(left) and is_number(right) else None
    if left is not None and right is not None:
        return left == right
    if a[0] == "name" and a == b:
        return True
    if _is_another(a, right, known) or _is_another(b, left, known):
        return False
    return None


def _is_another(term, value, known):
    """Whether a term is a name that is another one than some values, of which a value is one."""
    if term[0] != "name":
        return False
    how, told = known.get(term[1], ANY)
    return how == OTHER and value in told


def may_be_meant(basics, row, known):
    """Whether a row may be that of an event with these values, as far as is known."""
    values = {}
    for basic, value in zip(basics, row):
        if basic[0] != "name":
            differs = basic[1] != value
        else:
            how, told = known.get(basic[1], ANY)
            differs = told != value if how == IS else value in told
            differs = differs or values.setdefault(basic[1], value) != value
        if differs:
            return False
    return True
