"""Expressions: values that are computed from a row."""

from deltaloom.postorder import worked_out
from deltaloom.values import LONGEST_TEXT, rank, wrap


def evaluate(e, row):
    """Return the value of an expression for a row of any length."""
    return worked_out(e, operands, lambda part, values: result(part, values, row))


def mapped(exprs, row):
    """Return the row of the values of a list of expressions."""
    return tuple([evaluate(e, row) for e in exprs])


def number(value):
    """Return the integer that a value counts as in a calculation: 0 for a text."""
    return 0 if isinstance(value, str) else value


def operands(e):
    """Return the tuple of the expressions that an expression is made of."""
    return () if e[0] in ("at", "const") else e[1:]


def result(e, values, row):
    """Return the value of an expression whose operands have the values."""
    if e[0] == "const":
        return e[1]
    if e[0] == "at":
        return row[e[1]] if e[1] < len(row) else 0
    return calculated(e[0], values)


def calculated(sign, values):
    """Return what the sign of an expression makes of the values of its operands."""
    if sign == "if":
        condition, first, second = values
        return second if condition == 0 else first
    first, second = values
    if sign == "=":
        return 1 if first == second else 0
    if sign == "<":
        return 1 if rank(first) < rank(second) else 0
    if sign == "cat":
        return f"{first}{second}"[:LONGEST_TEXT]
    return arithmetic(sign, number(first), number(second))


def arithmetic(sign, first, second):
    """Return the wrapped sum, difference or product of two integers."""
    if sign == "+":
        return wrap(first + second)
    if sign == "-":
        return wrap(first - second)
    return wrap(first * second)
