"""Sums and tests: their worth over a row of jars, and how they are made shorter."""

from jarcards.errors import NoName

NOUGHT = ("num", 0)
ONE = ("num", 1)


def place_of(names, name):
    # From the end on, since of two jars with one name the last is meant.
    for place in range(len(names) - 1, -1, -1):
        if names[place] == name:
            return place
    raise NoName(f"no jar is called {name}")


def reckoned(word, first, second):
    if word == "add":
        return first + second
    if word == "sub":
        return first - second
    return first * second


def worth(part, names, values):
    word = part[0]
    if word == "num":
        return part[1]
    if word == "name":
        return values[place_of(names, part[1])]
    return reckoned(word, worth(part[1], names, values), worth(part[2], names, values))


def holds(test, names, values):
    word = test[0]
    if word == "not":
        return not holds(test[1], names, values)
    if word == "both":
        return holds(test[1], names, values) and holds(test[2], names, values)
    first = worth(test[1], names, values)
    second = worth(test[2], names, values)
    if word == "less":
        return first < second
    return first == second


# One walk serves sums and tests: but for the leaves, all that stands behind the word is sums or tests.
def names_used(part):
    if part[0] == "num":
        return []
    if part[0] == "name":
        return [part[1]]
    found = []
    for inner in part[1:]:
        found.extend(names_used(inner))
    return found


# The two sides are short already, so that a nought or a one that came about within is seen here.
def shorter_pair(word, first, second):
    if first[0] == "num" and second[0] == "num":
        return ("num", reckoned(word, first[1], second[1]))
    if word == "mul" and (first == NOUGHT or second == NOUGHT):
        return NOUGHT
    idle = ONE if word == "mul" else NOUGHT
    if second == idle:
        return first
    # Nought less a sum is not that sum, so a sub is left as it is on this side.
    if first == idle and word != "sub":
        return second
    return (word, first, second)


def shorter_sum(part):
    word = part[0]
    if word == "num" or word == "name":
        return part
    return shorter_pair(word, shorter_sum(part[1]), shorter_sum(part[2]))


def shorter_test(test):
    word = test[0]
    if word == "both":
        return ("both", shorter_test(test[1]), shorter_test(test[2]))
    if word == "not":
        inner = shorter_test(test[1])
        return inner[1] if inner[0] == "not" else ("not", inner)
    return (word, shorter_sum(test[1]), shorter_sum(test[2]))
