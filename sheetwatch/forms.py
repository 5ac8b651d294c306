"""The words of the forms of rules and terms, which reading and printing share."""

# For each operator its level, and the levels that it needs on its left and on its right.
OPERATORS = {
    "implies": (0, 1, 0),
    "or": (1, 1, 2),
    "and": (2, 2, 3),
    "since": (3, 4, 4),
    "until": (3, 4, 4),
}
ANY_LEVEL = 0
PLAIN_LEVEL = 4
OPERATORS_WITH_LIMITS = ("since", "until")
PREFIXES_WITH_LIMITS = ("before", "next", "once", "held", "soon", "kept")
QUANTIFIERS = ("some", "all")
FUNCTIONS = ("count", "sum", "least", "most")
COMPARISONS = ("=", "<", "<=")
WORDS_OF_SIGNS = {"+": "plus", "-": "less"}
SIGNS_OF_WORDS = {"plus": "+", "less": "-"}
