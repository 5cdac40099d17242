"""Trees as texts (part 1, points 1.8 and 1.9)."""

from sameclock.levels import CHOOSE_LEVEL, COMPARE_LEVEL, LEVELS, NOT_LEVEL, PRIMARY_LEVEL

STEP = "  "


def print_program(program):
    """Returns the text of the tree of a program."""
    arrays, procedures, main = program
    rows = []
    for label, name, length in arrays:
        rows.append(f"{label} array {name}[{length}];")
    for procedure in procedures:
        rows.extend(_procedure_rows("fn " + procedure[0], procedure))
    rows.extend(_procedure_rows("main", main))
    return "".join([row + "\n" for row in rows])


def print_expr(expr):
    """Returns the text of the tree of an expression, without a newline."""
    kind = expr[0]
    if kind == "num":
        return str(expr[1])
    if kind == "name":
        return expr[1]
    if kind == "read":
        return f"{expr[1]}[{print_expr(expr[2])}]"
    if kind == "call":
        values = ", ".join([print_expr(value) for value in expr[2]])
        return f"{expr[1]}({values})"
    if kind == "not":
        return "!" + _operand(expr[1], NOT_LEVEL)
    if kind == "choose":
        condition = _operand(expr[1], CHOOSE_LEVEL + 1)
        return f"{condition} ? {print_expr(expr[2])} : {print_expr(expr[3])}"
    return _operation(expr[1], expr[2], expr[3])


def _operation(sign, left, right):
    level = LEVELS[sign]
    # Only comparisons need more on the left, too: they do not group.
    left_need = level + 1 if level == COMPARE_LEVEL else level
    return f"{_operand(left, left_need)} {sign} {_operand(right, level + 1)}"


def _operand(expr, need):
    text = print_expr(expr)
    if _level(expr) < need:
        return f"({text})"
    return text


def _level(expr):
    kind = expr[0]
    if kind == "choose":
        return CHOOSE_LEVEL
    if kind == "op":
        return LEVELS[expr[1]]
    if kind == "not":
        return NOT_LEVEL
    return PRIMARY_LEVEL


def _procedure_rows(heading, procedure):
    _, params, statements, result = procedure
    shown = ", ".join([f"{label} {name}" for label, name in params])
    rows = [f"{heading}({shown}) {{"]
    rows.extend(_block_rows(statements, STEP))
    rows.append(f"{STEP}return {print_expr(result)};")
    rows.append("}")
    return rows


def _block_rows(statements, indent):
    rows = []
    for statement in statements:
        rows.extend(_statement_rows(statement, indent))
    return rows


def _statement_rows(statement, indent):
    kind = statement[0]
    if kind == "if":
        return _if_rows(statement, indent)
    if kind == "for":
        _, name, bound, most, body = statement
        rows = [f"{indent}for {name} to {print_expr(bound)} max {most} {{"]
        rows.extend(_block_rows(body, indent + STEP))
        rows.append(indent + "}")
        return rows
    return [f"{indent}{_plain_statement(statement)};"]


def _if_rows(statement, indent):
    _, condition, then, other = statement
    rows = [f"{indent}if {print_expr(condition)} {{"]
    rows.extend(_block_rows(then, indent + STEP))
    if other:
        rows.append(indent + "} else {")
        rows.extend(_block_rows(other, indent + STEP))
    rows.append(indent + "}")
    return rows


def _plain_statement(statement):
    kind = statement[0]
    if kind == "declare":
        return f"{statement[1]} {statement[2]} = {print_expr(statement[3])}"
    if kind == "assign":
        return f"{statement[1]} = {print_expr(statement[2])}"
    if kind == "store":
        return f"{statement[1]}[{print_expr(statement[2])}] = {print_expr(statement[3])}"
    return f"out {print_expr(statement[1])}"
