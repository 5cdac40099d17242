"""The checker: trees as typed programs (part 2)."""

from sameclock.errors import DoubleName, FixedName, Leak, UnknownName, WrongCount
from sameclock.limits import MOST_INPUTS, MOST_LENGTH, MOST_ROUNDS
from sameclock.parser import parse
from sameclock.parts import parts_of


def check(program):
    """Returns the typed program of a tree; raises the first error that it finds."""
    arrays, procedures, main = program
    known = Known(arrays)
    for procedure in procedures:
        known.take(procedure)
    if len(main[1]) > MOST_INPUTS:
        raise WrongCount("main")
    return (known.arrays, tuple(known.procedures), Scope(known).procedure(main))


def typed(text):
    """Parses and checks a text; returns the typed program."""
    return check(parse(text))


def label_of(program, labels, expr):
    """Returns the label of a typed expression of a typed program, where variables have these labels."""
    kind = expr[0]
    if kind == "var":
        return labels[expr[1]]
    if kind == "read" and program[0][expr[1]][0] == "secret":
        return "secret"
    if kind == "call" and program[1][expr[1]][5] == "secret":
        return "secret"
    for part in parts_of(expr):
        if label_of(program, labels, part) == "secret":
            return "secret"
    return "public"


class Known:
    """The arrays of a program, and its procedures as far as they are checked."""

    def __init__(self, arrays):
        self.arrays = arrays
        self.array_places = {}
        self.procedures = []
        self.procedure_places = {}
        self.quiet = []
        for place, (_, name, length) in enumerate(arrays):
            if name in self.array_places:
                raise DoubleName(name)
            if not 1 <= length <= MOST_LENGTH:
                raise WrongCount(name)
            self.array_places[name] = place

    def take(self, procedure):
        """Checks one more procedure."""
        name = procedure[0]
        if name in self.procedure_places:
            raise DoubleName(name)
        scope = Scope(self)
        self.procedures.append(scope.procedure(procedure))
        # Only now: a procedure does not know itself.
        self.procedure_places[name] = len(self.quiet)
        self.quiet.append(scope.quiet)

    def array_place(self, name):
        """The index of the array of this name."""
        if name not in self.array_places:
            raise UnknownName(name)
        return self.array_places[name]

    def procedure_place(self, name):
        """The index of the procedure of this name."""
        if name not in self.procedure_places:
            raise UnknownName(name)
        return self.procedure_places[name]


class Scope:
    """The variables of one procedure, or of main, while it is checked."""

    def __init__(self, known):
        self.known = known
        self.program = (known.arrays, tuple(known.procedures), None)
        self.names = {}
        self.labels = []
        self.loop_names = {}
        self.quiet = True

    def procedure(self, tree):
        """The typed procedure of a tree."""
        name, params, statements, result = tree
        for label, param in params:
            self.declare(param, label)
        param_labels = tuple(self.labels)
        done = self.statements(statements, False)
        value = self.expr(result, False)
        return (name, param_labels, tuple(self.labels), done, value, self.label(value))

    def declare(self, name, label):
        """Gives a name the next number; it counts from now on."""
        if name in self.names:
            raise DoubleName(name)
        number = len(self.labels)
        self.names[name] = number
        self.labels.append(label)
        return number

    def number(self, name):
        """The number of the variable of this name."""
        if name not in self.names:
            raise UnknownName(name)
        return self.names[name]

    def label(self, expr):
        """The label of a typed expression."""
        return label_of(self.program, self.labels, expr)

    def refuse_secret(self, values, under, word):
        """Raises Leak for what is public, if one of its values is secret or if it stands under secrets."""
        if under:
            raise Leak(word)
        for value in values:
            if self.label(value) == "secret":
                raise Leak(word)

    def statements(self, trees, under):
        """The typed statements; under tells whether they stand under secrets."""
        return tuple([self.statement(tree, under) for tree in trees])

    def block(self, trees, under):
        """The typed statements of a block; what it declares does not count behind it."""
        outside = self.names
        self.names = {name: outside[name] for name in outside}
        done = self.statements(trees, under)
        self.names = outside
        return done

    def statement(self, tree, under):
        """The typed statement of a tree."""
        kind = tree[0]
        if kind == "declare":
            return self.declaring(tree, under)
        if kind == "assign":
            return self.assigning(tree, under)
        if kind == "store":
            return self.storing(tree, under)
        if kind == "if":
            return self.deciding(tree, under)
        if kind == "for":
            return self.looping(tree, under)
        value = self.expr(tree[1], under)
        self.quiet = False
        self.refuse_secret((value,), under, "out")
        return ("out", value)

    def declaring(self, tree, under):
        """The typed statement of a declaration."""
        _, label, name, expr = tree
        value = self.expr(expr, under)
        number = self.declare(name, label)
        self.refuse_set(number, name, value, under)
        return ("set", number, value)

    def assigning(self, tree, under):
        """The typed statement of an assignment."""
        _, name, expr = tree
        number = self.number(name)
        if number in self.loop_names:
            raise FixedName(name)
        value = self.expr(expr, under)
        self.refuse_set(number, name, value, under)
        return ("set", number, value)

    def refuse_set(self, number, name, value, under):
        """Raises Leak if the variable may not get this value."""
        if self.labels[number] == "public":
            self.quiet = False
            self.refuse_secret((value,), under, name)

    def storing(self, tree, under):
        """The typed statement of a store."""
        _, name, at, expr = tree
        place = self.known.array_place(name)
        index = self.expr(at, under)
        value = self.expr(expr, under)
        if self.known.arrays[place][0] == "public":
            self.quiet = False
            self.refuse_secret((index, value), under, name)
        return ("store", place, index, value)

    def deciding(self, tree, under):
        """The typed statement of an if."""
        _, expr, then, other = tree
        condition = self.expr(expr, under)
        label = self.label(condition)
        inside = under or label == "secret"
        return ("if", label, condition, self.block(then, inside), self.block(other, inside))

    def looping(self, tree, under):
        """The typed statement of a for."""
        _, name, expr, most, body = tree
        bound = self.expr(expr, under)
        self.refuse_secret((bound,), False, name)
        if most > MOST_ROUNDS:
            raise WrongCount(name)
        outside = self.names
        self.names = {known: outside[known] for known in outside}
        number = self.declare(name, "public")
        self.loop_names[number] = True
        done = self.statements(body, under)
        self.names = outside
        return ("for", number, bound, most, done)

    def expr(self, tree, under):
        """The typed expression of a tree."""
        kind = tree[0]
        if kind == "num":
            return ("num", tree[1])
        if kind == "name":
            return ("var", self.number(tree[1]))
        if kind == "read":
            return ("read", self.known.array_place(tree[1]), self.expr(tree[2], under))
        if kind == "call":
            return self.call(tree, under)
        if kind == "op":
            return ("op", tree[1], self.expr(tree[2], under), self.expr(tree[3], under))
        if kind == "not":
            return ("not", self.expr(tree[1], under))
        return ("choose", self.expr(tree[1], under), self.expr(tree[2], under), self.expr(tree[3], under))

    def call(self, tree, under):
        """The typed expression of a call."""
        _, name, exprs = tree
        place = self.known.procedure_place(name)
        param_labels = self.known.procedures[place][1]
        if len(exprs) != len(param_labels):
            raise WrongCount(name)
        values = tuple([self.expr(expr, under) for expr in exprs])
        for label, value in zip(param_labels, values):
            if label == "public":
                self.refuse_secret((value,), False, name)
        if not self.known.quiet[place]:
            self.quiet = False
            self.refuse_secret((), under, name)
        return ("call", place, values)
