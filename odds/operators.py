"""The binary operators that stand between their operands."""

# How tightly each operator binds, by its tag: the greater, the tighter.
LEVEL_OF = {
    "or": 1, "and": 2, "eq": 3, "ne": 3, "lt": 3, "le": 3,
    "add": 4, "sub": 4, "mul": 5, "div": 5, "mod": 5,
}
SIGN_OF = {
    "or": "or", "and": "and", "eq": "=", "ne": "!=", "lt": "<", "le": "<=",
    "add": "+", "sub": "-", "mul": "*", "div": "div", "mod": "mod",
}
TAG_OF = {
    "or": "or", "and": "and", "=": "eq", "!=": "ne", "<": "lt", "<=": "le",
    "+": "add", "-": "sub", "*": "mul", "div": "div", "mod": "mod",
}

# Comparisons do not group: `a = b = c` is no expression.
COMPARISON_LEVEL = 3
HIGHEST_LEVEL = 5
