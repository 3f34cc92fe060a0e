"""Rows that tests write often."""

ASK = ("ask", "x")


def call(n):
    return ("call", n)


def either(first, second=()):
    return ("either", first, second)


def again(*rows):
    return ("again", rows)


def note(name, *ys):
    return ("note", name, "f", ys)
