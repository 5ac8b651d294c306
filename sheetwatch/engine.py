"""The engine: nodes that find the tables of core rules point by point."""

from sheetwatch.judge import Judged
from sheetwatch.nodes import OverNode, PairNode, PointNode
from sheetwatch.time_nodes import BeforeNode, NextNode, SinceNode, UntilNode


def make_node(core):
    """The node of a core rule that can be watched."""
    return _node_of(Judged(core))


def _node_of(rule):
    word = rule.core[0]
    if word in ("event", "compare", "true"):
        return PointNode(rule.core)
    if word == "and":
        return _node_of_and(rule)
    if word in ("since", "until"):
        return _node_of_span(rule)
    nodes = []
    for part in rule.parts:
        nodes.append(_node_of(part))
    if word == "or":
        return PairNode("union", nodes[0], nodes[1])
    if word == "before":
        return BeforeNode(rule, nodes[0])
    if word == "next":
        return NextNode(rule, nodes[0])
    return OverNode(word, rule.core, nodes[0])


def _node_of_and(rule):
    base, other = rule.base_and_other(rule.parts)
    if rule.how == "fitted":
        return OverNode(rule.how, other.core, _node_of(base))
    if rule.how == "minus":
        other = other.parts[0]
    return PairNode(rule.how, _node_of(base), _node_of(other))


def _node_of_span(rule):
    first, second = rule.parts
    how = "join"
    # A not of a rule with names has no table; it takes away the rows of the rule's table.
    if first.core[0] == "not":
        how = "minus"
        first = first.parts[0]
    if rule.core[0] == "since":
        return SinceNode(rule, how, _node_of(first), _node_of(second))
    return UntilNode(rule, how, _node_of(first), _node_of(second))
