"""The levels of the operators: the higher one binds closer (points 1.5 and 1.9)."""

LEVELS = {
    "|": 1, "^": 2, "&": 3, "==": 4, "<": 4, "<=": 4, "<<": 5, ">>": 5, "+": 6, "-": 6, "*": 7, "div": 7, "mod": 7,
}
CHOOSE_LEVEL = 0
LOWEST_LEVEL = 1
COMPARE_LEVEL = 4
GREATEST_LEVEL = 7
NOT_LEVEL = 8
PRIMARY_LEVEL = 9
