"""The machine that runs cards."""

from jarcards.errors import Jam
from jarcards.sums import reckoned

OIL_CARDS = ("burn", "back")


def one_where(held):
    return 1 if held else 0


def made_of_two(word, first, second):
    if word == "less":
        return one_where(first < second)
    if word == "same":
        return one_where(first == second)
    return reckoned(word, first, second)


class Machine:
    def __init__(self, cards, pile, oil):
        self.cards = cards
        self.pile = list(pile)
        self.left = oil
        self.place = 0
        self.said = []

    # None while the run goes on. Oil is looked at here, ahead of the card itself: a dry run asks for no K.
    def ending(self):
        if self.place == len(self.cards):
            return "done"
        if self.left == 0 and self.cards[self.place][0] in OIL_CARDS:
            return "dry"
        return None

    def state(self):
        return (self.place, list(self.pile), self.left)

    def do_card(self):
        card = self.cards[self.place]
        # From here on the place is that of the card behind; skip, fork and back reckon from there.
        self.place += 1
        word = card[0]
        if word == "fork":
            if self.taken_off() == 0:
                self.leave_out(card[1])
        elif word == "skip":
            self.leave_out(card[1])
        elif word == "burn":
            self.left -= 1
        elif word == "back":
            self.left -= 1
            self.go_back(card[1])
        else:
            self.do_on_pile(card)

    def do_on_pile(self, card):
        word = card[0]
        if word == "push":
            self.pile.append(card[1])
        elif word == "load":
            self.pile.append(self.pile[self.place_on_pile(card[1])])
        elif word == "store":
            number = self.taken_off()
            self.pile[self.place_on_pile(card[1])] = number
        elif word == "drop":
            self.taken_off()
        elif word == "say":
            self.said.append(self.taken_off())
        elif word == "flip":
            self.pile.append(one_where(self.taken_off() == 0))
        else:
            second = self.taken_off()
            first = self.taken_off()
            self.pile.append(made_of_two(word, first, second))

    def taken_off(self):
        if not self.pile:
            raise Jam("a number is to be taken off an empty pile")
        return self.pile.pop()

    def place_on_pile(self, place):
        if place < 0 or place >= len(self.pile):
            raise Jam("there is no such place on the pile")
        return place

    def leave_out(self, count):
        if count < 0 or count > len(self.cards) - self.place:
            raise Jam("there are not so many cards left")
        self.place += count

    def go_back(self, count):
        if count < 0 or count > self.place - 1:
            raise Jam("there are not so many cards before this one")
        self.place -= count + 1


def ran(cards, pile, oil):
    machine = Machine(cards, pile, oil)
    while machine.ending() is None:
        machine.do_card()
    return (machine.ending(), machine.said, machine.pile, oil - machine.left)


def diary(cards, pile, oil):
    machine = Machine(cards, pile, oil)
    states = [machine.state()]
    while machine.ending() is None:
        machine.do_card()
        states.append(machine.state())
    return states
