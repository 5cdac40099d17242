"""What the forms of several parts have in common."""


def is_number(thing, least, most):
    """Returns True if any value is an integer in these bounds; truths are none."""
    return isinstance(thing, int) and not isinstance(thing, bool) and least <= thing <= most


def is_label(thing):
    """Returns True if any value is a label."""
    return isinstance(thing, str) and thing in ("public", "secret")
