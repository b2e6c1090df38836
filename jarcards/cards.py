"""From orders to cards. A stranger is refused on the way, since each use of a name becomes a card."""

from jarcards.sums import place_of


def sum_cards(part, names):
    word = part[0]
    if word == "num":
        return [("push", part[1])]
    if word == "name":
        return [("load", place_of(names, part[1]))]
    return sum_cards(part[1], names) + sum_cards(part[2], names) + [(word,)]


def both_cards(first, second):
    return first + [("fork", len(second) + 1)] + second + [("skip", 1), ("push", 0)]


def test_cards(test, names):
    word = test[0]
    if word == "not":
        return test_cards(test[1], names) + [("flip",)]
    if word == "both":
        return both_cards(test_cards(test[1], names), test_cards(test[2], names))
    return sum_cards(test[1], names) + sum_cards(test[2], names) + [(word,)]


def when_cards(test, first, second):
    return test + [("fork", len(first) + 1)] + first + [("skip", len(second))] + second


def while_cards(test, inner):
    # The one more that is gone back over is the fork.
    return test + [("fork", len(inner) + 1)] + inner + [("back", len(test) + 1 + len(inner))]


# All kinds of orders stand in this one function, so that a block within a block is one call deeper and no more.
def block_cards(block, names):
    made = []
    for order in block:
        word = order[0]
        made.append(("burn",))
        if word == "set":
            made.extend(sum_cards(order[2], names))
            made.append(("store", place_of(names, order[1])))
        elif word == "say":
            made.extend(sum_cards(order[1], names))
            made.append(("say",))
        elif word == "when":
            test = test_cards(order[1], names)
            made.extend(when_cards(test, block_cards(order[2], names), block_cards(order[3], names)))
        elif word == "while":
            made.extend(while_cards(test_cards(order[1], names), block_cards(order[2], names)))
        else:
            # The sum lies outside of the block, so its row is still without the new jar.
            made.extend(sum_cards(order[2], names))
            made.extend(block_cards(order[3], names + [order[1]]))
            made.append(("drop",))
    return made


def cards_of(program):
    return block_cards(program[1], program[0])
