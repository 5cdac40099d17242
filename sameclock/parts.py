"""What stands within typed expressions (point 2.4)."""


def parts_of(expr):
    """Returns the tuple of the expressions that stand within a typed one, in the order of their evaluation."""
    kind = expr[0]
    if kind == "read":
        return (expr[2],)
    if kind == "call":
        return expr[2]
    if kind == "op":
        return (expr[2], expr[3])
    if kind == "not":
        return (expr[1],)
    if kind == "choose":
        return (expr[1], expr[2], expr[3])
    return ()
