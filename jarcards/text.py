"""Programs written as rows of words, and read back."""

from jarcards.errors import NoProgram

ORDER_WORDS = ("set", "say", "when", "while", "with")
SUM_WORDS = ("add", "sub", "mul")
KEPT = (
    "jars", "set", "say", "when", "else", "while", "with", "end",
    "add", "sub", "mul", "less", "same", "not", "both",
)
LETTERS = "abcdefghijklmnopqrstuvwxyz"
FIGURES = "0123456789"


# In lots, since Python refuses to write a number of some thousands of figures at once.
def number_text(number):
    lots = []
    rest = abs(number)
    while rest >= 10 ** 64:
        lots.append(str(rest % 10 ** 64).zfill(64))
        rest = rest // 10 ** 64
    lots.append(str(rest))
    sign = "-" if number < 0 else ""
    return sign + "".join(reversed(lots))


# One walk serves sums and tests: but for the leaves, both are a word and the parts behind it.
def part_words(part):
    if part[0] == "num":
        return [number_text(part[1])]
    if part[0] == "name":
        return [part[1]]
    words = [part[0]]
    for inner in part[1:]:
        words.extend(part_words(inner))
    return words


# The words of an order's first row: those of its head, up to its blocks if it has any.
def head_words(order):
    if order[0] in ("set", "with"):
        return [order[0], order[1]] + part_words(order[2])
    return [order[0]] + part_words(order[1])


def block_rows(block, lead):
    rows = []
    for order in block:
        word = order[0]
        rows.append(lead + " ".join(head_words(order)))
        if word == "when":
            rows.extend(block_rows(order[2], lead + "  "))
            rows.append(lead + "else")
            rows.extend(block_rows(order[3], lead + "  "))
        elif word == "while":
            rows.extend(block_rows(order[2], lead + "  "))
        elif word == "with":
            rows.extend(block_rows(order[3], lead + "  "))
        if word in ("when", "while", "with"):
            rows.append(lead + "end")
    return rows


def shown(program):
    return [" ".join(["jars"] + program[0])] + block_rows(program[1], "")


def only_of(signs, text):
    for sign in text:
        if sign not in signs:
            return False
    return text != ""


def is_name(word):
    return only_of(LETTERS, word) and word not in KEPT


def is_number(word):
    figures = word[1:] if word.startswith("-") else word
    return word == "0" or (only_of(FIGURES, figures) and figures[0] != "0")


# Figure by figure, for the same reason that numbers are written in lots.
def number_of(word):
    number = 0
    for figure in word.lstrip("-"):
        number = number * 10 + int(figure)
    return -number if word.startswith("-") else number


class Reader:
    def __init__(self, words):
        self.words = words
        self.place = 0

    # Nothing but the words' end is told as an empty word.
    def coming(self):
        return self.words[self.place] if self.place < len(self.words) else ""

    def taken(self):
        word = self.coming()
        self.place += 1
        return word

    def need(self, wanted):
        if self.taken() != wanted:
            raise NoProgram("another word stands there, or none, than is needed")

    def read_name(self):
        word = self.taken()
        if not is_name(word):
            raise NoProgram("a name is missing")
        return word

    def read_names(self):
        names = []
        while is_name(self.coming()):
            name = self.taken()
            if name in names:
                raise NoProgram(f"two jars are called {name}")
            names.append(name)
        return names

    def read_sum(self):
        word = self.taken()
        if word in SUM_WORDS:
            first = self.read_sum()
            return (word, first, self.read_sum())
        if is_name(word):
            return ("name", word)
        if is_number(word):
            return ("num", number_of(word))
        raise NoProgram("a sum is missing")

    def read_test(self):
        word = self.taken()
        if word == "not":
            return ("not", self.read_test())
        if word == "both":
            first = self.read_test()
            return ("both", first, self.read_test())
        if word in ("less", "same"):
            first = self.read_sum()
            return (word, first, self.read_sum())
        raise NoProgram("a test is missing")

    def read_block(self):
        block = []
        while self.coming() in ORDER_WORDS:
            word = self.taken()
            if word == "set":
                name = self.read_name()
                block.append(("set", name, self.read_sum()))
            elif word == "say":
                block.append(("say", self.read_sum()))
            elif word == "when":
                test = self.read_test()
                first = self.read_block()
                self.need("else")
                block.append(("when", test, first, self.read_block()))
                self.need("end")
            elif word == "while":
                test = self.read_test()
                block.append(("while", test, self.read_block()))
                self.need("end")
            else:
                name = self.read_name()
                start = self.read_sum()
                block.append(("with", name, start, self.read_block()))
                self.need("end")
        return block


def read(rows):
    words = []
    for row in rows:
        # At blanks alone: any other sign is part of a word.
        words.extend([word for word in row.split(" ") if word])
    reader = Reader(words)
    reader.need("jars")
    names = reader.read_names()
    block = reader.read_block()
    reader.need("")
    return (names, block)
