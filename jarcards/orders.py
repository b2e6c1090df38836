"""Orders: their strangers, how they are followed, and how a program is made shorter."""

from jarcards.errors import NoName
from jarcards.sums import holds, names_used, place_of, shorter_sum, shorter_test, worth

# A step that is no order and burns nothing: it takes the jar of a `with` away behind its block.
AWAY = ("away",)


# As written, since strangers are told so: a set's name stands ahead of its sum, and all of it ahead of the blocks.
def names_at_head(order):
    word = order[0]
    if word == "set":
        return [order[1]] + names_used(order[2])
    if word == "with":
        return names_used(order[2])
    return names_used(order[1])


def block_strangers(block, names):
    found = []
    for order in block:
        word = order[0]
        found.extend([name for name in names_at_head(order) if name not in names])
        if word == "when":
            found.extend(block_strangers(order[2], names))
            found.extend(block_strangers(order[3], names))
        elif word == "while":
            found.extend(block_strangers(order[2], names))
        elif word == "with":
            found.extend(block_strangers(order[3], names + [order[1]]))
    return found


def strangers(program):
    return block_strangers(program[1], program[0])


# The steps ahead are kept in a list, not in calls within calls, so that running dry ends all of them at once.
class Course:
    def __init__(self, program, starts, oil):
        self.row = list(program[0])
        self.held = list(starts)
        self.said = []
        self.oil = oil
        self.used = 0
        self.ahead = []
        self.put_ahead(program[1])

    # The next step lies last, where it can be taken off.
    def put_ahead(self, block):
        self.ahead.extend(list(reversed(block)))

    def go(self):
        while self.ahead:
            step = self.ahead.pop()
            if step == AWAY:
                self.row.pop()
                self.held.pop()
            elif self.used == self.oil:
                return "dry"
            else:
                self.used += 1
                self.begin(step)
        return "done"

    def begin(self, order):
        word = order[0]
        if word == "set":
            self.held[place_of(self.row, order[1])] = self.worth_now(order[2])
        elif word == "say":
            self.said.append(self.worth_now(order[1]))
        elif word == "when":
            self.put_ahead(order[2] if self.holds_now(order[1]) else order[3])
        elif word == "while":
            self.begin_while(order)
        else:
            self.begin_with(order)

    def begin_while(self, order):
        if self.holds_now(order[1]):
            # Behind its turn the order is begun anew: that burns the turn's drop and looks at the test again.
            self.ahead.append(order)
            self.put_ahead(order[2])

    def begin_with(self, order):
        # The sum lies outside of the block, so it is reckoned before the row has the new jar.
        start = self.worth_now(order[2])
        self.row.append(order[1])
        self.held.append(start)
        self.ahead.append(AWAY)
        self.put_ahead(order[3])

    def worth_now(self, part):
        return worth(part, self.row, self.held)

    def holds_now(self, test):
        return holds(test, self.row, self.held)


def followed(program, starts, oil):
    unknown = strangers(program)
    if unknown:
        name = unknown[0]
        raise NoName(f"no jar is called {name}")
    course = Course(program, starts, oil)
    word = course.go()
    return (word, course.said, course.held[:len(program[0])], course.used)


def shorter_block(block):
    made = []
    for order in block:
        word = order[0]
        if word == "set":
            made.append(("set", order[1], shorter_sum(order[2])))
        elif word == "say":
            made.append(("say", shorter_sum(order[1])))
        elif word == "when":
            made.append(("when", shorter_test(order[1]), shorter_block(order[2]), shorter_block(order[3])))
        elif word == "while":
            made.append(("while", shorter_test(order[1]), shorter_block(order[2])))
        else:
            made.append(("with", order[1], shorter_sum(order[2]), shorter_block(order[3])))
    return made


def shorter(program):
    return (list(program[0]), shorter_block(program[1]))
