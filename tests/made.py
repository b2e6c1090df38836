"""What several tests build on: short forms for parts, deep parts, and programs made from a fixed seed."""

import random
import re

KEPT = "jars set say when else while with end add sub mul less same not both".split()
BIG = 10 ** 32 - 1


def num(number):
    return ("num", number)


def name(text):
    return ("name", text)


def copied(value):
    """A copy down to the leaves, with fewer calls within calls than copy.deepcopy takes for deep programs."""
    if not isinstance(value, (list, tuple)):
        return value
    made = []
    for inner in value:
        made.append(copied(inner))
    return made if isinstance(value, list) else tuple(made)


def always():
    return ("same", num(0), num(0))


def never():
    return ("less", num(0), num(0))


def deep_sum(word, leaf, side, depth):
    """Depth sums one within the other, the leaf innermost, `side` on the other side."""
    part = leaf
    for turn in range(depth - 1):
        part = (word, part, side) if turn % 2 else (word, side, part)
    return part


def deep_not(test, count):
    for turn in range(count):
        test = ("not", test)
    return test


def deep_both(test, other, count):
    for turn in range(count):
        test = ("both", test, other) if turn % 2 else ("both", other, test)
    return test


def deep_orders(inner, count):
    """Orders of all three kinds with blocks, one within the other, each done just once."""
    block = [inner]
    for turn in range(count):
        kind = turn % 4
        if kind == 0:
            block = [("when", always(), block, [])]
        elif kind == 1:
            block = [("when", never(), [], block)]
        elif kind == 2:
            block = [("with", "w", num(0), block)]
        else:
            one_turn = ("less", name("t"), num(1))
            loop = ("while", one_turn, block + [("set", "t", num(1))])
            block = [("with", "t", num(0), [loop])]
    return block


class Maker:
    """Programs without strangers, the same ones on each run."""

    def __init__(self, seed):
        self.source = random.Random(seed)

    def sum(self, row, depth):
        pick = self.source.randrange(8)
        if depth == 0 or pick < 2:
            if row and self.source.randrange(2):
                return name(self.source.choice(row))
            return num(self.source.choice([0, 0, 1, 1, -1, 2, 7, -10 ** 20, BIG]))
        word = self.source.choice(["add", "sub", "mul"])
        return (word, self.sum(row, depth - 1), self.sum(row, depth - 1))

    def test(self, row, depth):
        pick = self.source.randrange(4)
        if depth == 0 or pick < 2:
            return (self.source.choice(["less", "same"]), self.sum(row, 2), self.sum(row, 2))
        if pick == 2:
            return ("not", self.test(row, depth - 1))
        return ("both", self.test(row, depth - 1), self.test(row, depth - 1))

    def order(self, row, depth):
        pick = self.source.randrange(9) if depth else self.source.randrange(4)
        if pick < 2 and row:
            return ("set", self.source.choice(row), self.sum(row, 3))
        if pick < 4:
            return ("say", self.sum(row, 3))
        if pick < 6:
            return ("when", self.test(row, 3), self.block(row, depth - 1), self.block(row, depth - 1))
        if pick < 7:
            return ("while", self.test(row, 3), self.block(row, depth - 1))
        inner = self.source.choice("abz")
        return ("with", inner, self.sum(row, 3), self.block(row + [inner], depth - 1))

    def block(self, row, depth):
        return [self.order(row, depth) for turn in range(self.source.randrange(4))]

    def program(self):
        row = self.source.choice([[], ["a"], ["a", "b"], ["b", "cc", "a"]])
        return (list(row), self.block(row, 3))

    def starts(self, program):
        return [self.source.choice([0, 1, -2, 5, 10 ** 25]) for jar in program[0]]


class TameMaker(Maker):
    """The same, but a product has a small number on one side, so that long runs don't come to endless figures."""

    def sum(self, row, depth):
        part = Maker.sum(self, row, depth)
        if part[0] == "mul":
            return ("mul", part[1], num(self.source.choice([0, 1, -1, 3])))
        return part


def examples():
    """Programs without strangers: pairs of a program and what its jars hold at the beginning."""
    count_down = ("while", ("less", num(0), name("n")), [
        ("say", ("mul", name("n"), name("n"))),
        ("set", "n", ("sub", name("n"), num(1))),
    ])
    not_four = ("not", ("same", name("a"), num(4)))
    within = ("both", ("less", num(0), name("a")), ("both", ("less", name("a"), num(9)), not_four))
    row = [
        (([], []), []),
        ((["a", "bc"], []), [1, -2]),
        (([], [("say", num(-BIG))]), []),
        ((["n"], [count_down]), [4]),
        ((["n", "m"], [("set", "m", name("n")), count_down, ("say", name("m"))]), [3, 0]),
        (([], [("when", always(), [], []), ("when", never(), [], []), ("while", never(), [])]), []),
        (([], [("while", always(), [])]), []),
        (([], [("with", "x", num(0), [])]), []),
        ((["a", "n"], [
            ("with", "a", ("add", name("a"), num(1)), [
                ("with", "n", name("a"), [count_down, ("set", "a", num(BIG))]),
                ("say", name("a")),
            ]),
            ("say", name("a")),
            ("say", name("n")),
        ]), [2, 7]),
        ((["i", "a"], [("while", ("less", name("i"), num(3)), [
            ("with", "k", ("mul", name("i"), num(2)), [
                ("when", ("same", name("i"), num(1)), [("set", "a", name("k"))], [
                    ("with", "k", num(5), [("say", name("k"))]),
                    ("say", name("k")),
                ]),
            ]),
            ("set", "i", ("add", num(1), name("i"))),
        ])]), [0, 10]),
    ]
    for start in (-1, 0, 1, 4, 5, 8, 9):
        row.append(((["a"], [("when", within, [("say", num(1))], [("say", num(0)), ("say", name("a"))])]), [start]))
    return row


def words_of(rows):
    return " ".join(rows).split()


def proper_name(text):
    return isinstance(text, str) and re.fullmatch("[a-z]+", text) is not None and text not in KEPT


def proper_part(part, is_test):
    if not isinstance(part, tuple):
        return False
    word, inner = part[0], part[1:]
    if word == "num":
        return not is_test and len(inner) == 1 and type(inner[0]) is int
    if word == "name":
        return not is_test and len(inner) == 1 and proper_name(inner[0])
    count = 1 if word == "not" else 2
    known = word in ("less", "same", "not", "both") if is_test else word in ("add", "sub", "mul")
    return known and len(inner) == count and all(proper_part(side, word in ("not", "both")) for side in inner)


def proper_block(block):
    if not isinstance(block, list):
        return False
    for order in block:
        parts = {"set": "xa", "say": "a", "when": "tbb", "while": "tb", "with": "xab"}[order[0]]
        looks = {
            "x": proper_name, "a": lambda part: proper_part(part, False), "t": lambda part: proper_part(part, True),
            "b": proper_block,
        }
        if not isinstance(order, tuple) or len(order) != len(parts) + 1:
            return False
        if not all(looks[kind](part) for kind, part in zip(parts, order[1:])):
            return False
    return True


def proper(program):
    """Whether it is a program as points 2 to 5 tell it, strangers or not."""
    names, block = program
    if not isinstance(program, tuple) or not isinstance(names, list) or len(set(names)) != len(names):
        return False
    return all(proper_name(text) for text in names) and proper_block(block)
