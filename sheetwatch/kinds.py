"""The kinds of the names in core rules."""

from sheetwatch.errors import NoKind, WrongKind
from sheetwatch.forms import SIGNS_OF_WORDS
from sheetwatch.parts import rules_in

NUMBER = "number"
WORD = "word"


def kinds_of(core, events):
    """The dict from all names of a core rule to their kinds; events is one from names of events to their kinds."""
    steps = []
    _add_steps(core, events, steps)
    kinds = {}
    known = -1
    while known < len(kinds):
        known = len(kinds)
        for step in steps:
            _learn(step, kinds)
    for step in steps:
        _check(step, kinds)
    for step in steps:
        _check_known(step, kinds)
    return kinds


def _add_steps(core, events, steps):
    """Adds the steps of going through a core rule, in order: the places in it that tell something of kinds.

    ("need", kind, term, word) says that a term must have a kind, and with which word WrongKind is raised
    otherwise; ("alike", a, b) that two terms must have the same one; ("bound", term) that a some binds a name.
    """
    word = core[0]
    if word == "event":
        for kind, basic in zip(events[core[1]], core[2]):
            steps.append(("need", kind, basic, core[1]))
    elif word == "compare":
        _add_steps_of_compare(core, steps)
    elif word == "some":
        steps.append(("bound", ("name", core[1])))
        _add_steps(core[2], events, steps)
    elif word == "group":
        _, x, function, y, _, part = core
        _add_steps(part, events, steps)
        measured = (x,) if y is None else (x, y)
        for name in measured:
            steps.append(("need", NUMBER, ("name", name), function))
    else:
        for part in rules_in(core):
            _add_steps(part, events, steps)


def _add_steps_of_compare(core, steps):
    _, sign, left, right = core
    if sign == "=":
        _add_steps_inside(left, steps)
        _add_steps_inside(right, steps)
        steps.append(("alike", left, right))
    else:
        _add_steps_of_sides(sign, left, right, steps)


def _add_steps_of_sides(sign, left, right, steps):
    """Adds the steps of a sign whose sides are numbers."""
    for side in (left, right):
        _add_steps_inside(side, steps)
        steps.append(("need", NUMBER, side, sign))


def _add_steps_inside(term, steps):
    if term[0] in SIGNS_OF_WORDS:
        word, left, right = term
        _add_steps_of_sides(SIGNS_OF_WORDS[word], left, right, steps)


def _learn(step, kinds):
    """Gives a kind to a name that has none, if a step tells one."""
    if step[0] == "need":
        _give(step[2], step[1], kinds)
    elif step[0] == "alike":
        _, left, right = step
        _give(left, _kind(right, kinds), kinds)
        _give(right, _kind(left, kinds), kinds)


def _give(term, kind, kinds):
    if term[0] == "name" and kind is not None:
        kinds.setdefault(term[1], kind)


def _check(step, kinds):
    """Raises WrongKind if the kinds are not as a step needs them."""
    if step[0] == "need":
        _, needed, term, word = step
        if _kind(term, kinds) not in (needed, None):
            raise WrongKind(word)
    elif step[0] == "alike":
        left, right = _kind(step[1], kinds), _kind(step[2], kinds)
        if left is not None and right is not None and left != right:
            raise WrongKind("=")


def _check_known(step, kinds):
    """Raises NoKind if a name of a step has no kind; a name with a need has one by now."""
    if step[0] != "need":
        for term in step[1:]:
            if _kind(term, kinds) is None:
                raise NoKind(term[1].partition(".")[0])


def _kind(term, kinds):
    """The kind of a term, or None if it is a name that has none."""
    word = term[0]
    if word == "name":
        return kinds.get(term[1])
    return WORD if word == "text" else NUMBER
