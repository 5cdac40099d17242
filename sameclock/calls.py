"""Which procedures a typed program calls, and whether under secrets (point 2.6)."""

from sameclock.parts import parts_of


def needed_calls(typed):
    """Returns the ascending list of the pairs (p, under) of the calls that main leads to.

    p is the index of a procedure; under tells whether the call stands under secrets, where a call does
    if the one whose procedure it stands in does.
    """
    needed = {}
    for call in calls_of(typed[2]):
        needed[call] = True
    # A procedure calls only those ahead of it.
    for p in reversed(range(len(typed[1]))):
        calls = calls_of(typed[1][p])
        for under in (False, True):
            if (p, under) in needed:
                for other, inside in calls:
                    needed[(other, under or inside)] = True
    return sorted(list(needed))


def calls_of(procedure):
    """Returns the list of the pairs (p, under) of the calls in a typed procedure."""
    return _in_statements(procedure[3], False) + _in_expr(procedure[4], False)


def _in_statements(statements, under):
    found = []
    for statement in statements:
        found.extend(_in_statement(statement, under))
    return found


def _in_statement(statement, under):
    kind = statement[0]
    if kind == "set":
        return _in_expr(statement[2], under)
    if kind == "store":
        return _in_expr(statement[2], under) + _in_expr(statement[3], under)
    if kind == "if":
        inside = under or statement[1] == "secret"
        found = _in_expr(statement[2], under)
        return found + _in_statements(statement[3], inside) + _in_statements(statement[4], inside)
    if kind == "for":
        return _in_expr(statement[2], under) + _in_statements(statement[4], under)
    return _in_expr(statement[1], under)


def _in_expr(expr, under):
    found = []
    for part in parts_of(expr):
        found.extend(_in_expr(part, under))
    if expr[0] == "call":
        found.append((expr[1], under))
    return found
