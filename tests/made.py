"""What several tests build on: short forms for parts, deep parts, and programs made from a fixed seed."""

import random


def num(number):
    return ("num", number)


def name(text):
    return ("name", text)


def copied(value):
    """A copy down to the leaves, with fewer calls within calls than copy.deepcopy takes for deep programs."""
    if not isinstance(value, (list, tuple)):
        return value
    made = []
    for inner in value:
        made.append(copied(inner))
    return made if isinstance(value, list) else tuple(made)


def always():
    return ("same", num(0), num(0))


def never():
    return ("less", num(0), num(0))


def deep_sum(word, leaf, side, depth):
    """Depth sums one within the other, the leaf innermost, `side` on the other side."""
    part = leaf
    for turn in range(depth - 1):
        part = (word, part, side) if turn % 2 else (word, side, part)
    return part


def deep_not(test, count):
    for turn in range(count):
        test = ("not", test)
    return test


def deep_both(test, other, count):
    for turn in range(count):
        test = ("both", test, other) if turn % 2 else ("both", other, test)
    return test


def deep_orders(inner, count):
    """Orders of all three kinds with blocks, one within the other, each done just once."""
    block = [inner]
    for turn in range(count):
        kind = turn % 4
        if kind == 0:
            block = [("when", always(), block, [])]
        elif kind == 1:
            block = [("when", never(), [], block)]
        elif kind == 2:
            block = [("with", "w", num(0), block)]
        else:
            one_turn = ("less", name("t"), num(1))
            loop = ("while", one_turn, block + [("set", "t", num(1))])
            block = [("with", "t", num(0), [loop])]
    return block


class Maker:
    """Programs without strangers, the same ones on each run."""

    def __init__(self, seed):
        self.source = random.Random(seed)

    def sum(self, row, depth):
        pick = self.source.randrange(8)
        if depth == 0 or pick < 2:
            if row and self.source.randrange(2):
                return name(self.source.choice(row))
            return num(self.source.choice([0, 0, 1, 1, -1, 2, 7, -10 ** 20]))
        word = self.source.choice(["add", "sub", "mul"])
        return (word, self.sum(row, depth - 1), self.sum(row, depth - 1))

    def test(self, row, depth):
        pick = self.source.randrange(4)
        if depth == 0 or pick < 2:
            return (self.source.choice(["less", "same"]), self.sum(row, 2), self.sum(row, 2))
        if pick == 2:
            return ("not", self.test(row, depth - 1))
        return ("both", self.test(row, depth - 1), self.test(row, depth - 1))

    def order(self, row, depth):
        pick = self.source.randrange(9) if depth else self.source.randrange(4)
        if pick < 2 and row:
            return ("set", self.source.choice(row), self.sum(row, 3))
        if pick < 4:
            return ("say", self.sum(row, 3))
        if pick < 6:
            return ("when", self.test(row, 3), self.block(row, depth - 1), self.block(row, depth - 1))
        if pick < 7:
            return ("while", self.test(row, 3), self.block(row, depth - 1))
        inner = self.source.choice("abz")
        return ("with", inner, self.sum(row, 3), self.block(row + [inner], depth - 1))

    def block(self, row, depth):
        return [self.order(row, depth) for turn in range(self.source.randrange(4))]

    def program(self):
        row = self.source.choice([[], ["a"], ["a", "b"], ["b", "cc", "a"]])
        return (list(row), self.block(row, 3))

    def starts(self, program):
        return [self.source.choice([0, 1, -2, 5, 10 ** 25]) for jar in program[0]]
