import unittest

from jarcards.errors import Jam, JarError
from jarcards.machine import diary, ran
from made import BIG, copied

TAKING_ONE = [("store", 0), ("drop",), ("flip",), ("say",), ("fork", 0)]
TAKING_TWO = [("add",), ("sub",), ("mul",), ("less",), ("same",)]
BURN = ("burn",)
SAY = ("say",)


def push(*numbers):
    return [("push", number) for number in numbers]


class Case(unittest.TestCase):
    def told(self, cards, pile, oil, wanted):
        handed = (cards, pile)
        before = copied(handed)
        got = ran(cards, pile, oil)
        self.assertEqual(got, wanted)
        self.assertEqual([type(value) for value in got], [str, list, list, int])
        self.assertEqual([type(number) for number in got[1] + got[2]], [int] * len(got[1] + got[2]))
        self.assertIsNot(got[2], pile)
        states = diary(cards, pile, oil)
        self.assertEqual(states[0], (0, pile, oil))
        self.assertEqual(states[-1][1:], (got[2], oil - got[3]))
        self.assertEqual(states[-1][0] == len(cards), got[0] == "done")
        self.assertEqual(handed, before)

    def jammed(self, cards, pile, oil=9):
        handed = (cards, pile)
        before = copied(handed)
        for told in (ran, diary):
            for refusal in (Jam, JarError):
                with self.assertRaises(refusal):
                    told(cards, pile, oil)
        self.assertEqual(handed, before)


class EachCard(Case):
    def test_no_card(self):
        self.told([], [], 0, ("done", [], [], 0))
        self.told([], [], 9, ("done", [], [], 0))
        self.told([], [3, -4], 9, ("done", [], [3, -4], 0))

    def test_push(self):
        self.told([("push", 5)], [], 0, ("done", [], [5], 0))
        self.told(push(0, -BIG, BIG), [7], 0, ("done", [], [7, 0, -BIG, BIG], 0))

    def test_load(self):
        self.told([("load", 0)], [5], 0, ("done", [], [5, 5], 0))
        self.told([("load", 0)], [5, 6, 7], 0, ("done", [], [5, 6, 7, 5], 0))
        self.told([("load", 1)], [5, 6, 7], 0, ("done", [], [5, 6, 7, 6], 0))
        self.told([("load", 2), ("load", 3)], [5, 6, 7], 0, ("done", [], [5, 6, 7, 7, 7], 0))

    def test_store(self):
        self.told([("store", 0)], [5, 6, 7], 0, ("done", [], [7, 6], 0))
        self.told([("store", 1)], [5, 6, 7], 0, ("done", [], [5, 7], 0))
        self.told([("store", 0), ("store", 0)], [5, 6, 7], 0, ("done", [], [6], 0))

    def test_drop(self):
        self.told([("drop",)], [5, 6], 0, ("done", [], [5], 0))
        self.told([("drop",), ("drop",)], [5, 6], 0, ("done", [], [], 0))

    def test_add_sub_mul(self):
        self.told([("add",)], [9, 7, 3], 0, ("done", [], [9, 10], 0))
        self.told([("sub",)], [9, 7, 3], 0, ("done", [], [9, 4], 0))
        self.told([("sub",)], [3, 7], 0, ("done", [], [-4], 0))
        self.told([("mul",)], [9, 7, -3], 0, ("done", [], [9, -21], 0))

    def test_less(self):
        for first, second, wanted in ((1, 2, 1), (2, 2, 0), (3, 2, 0), (-3, -2, 1), (-2, -3, 0)):
            self.told([("less",)], [9, first, second], 0, ("done", [], [9, wanted], 0))

    def test_same(self):
        for first, second, wanted in ((1, 2, 0), (2, 2, 1), (3, 2, 0), (-2, 2, 0), (0, 0, 1)):
            self.told([("same",)], [9, first, second], 0, ("done", [], [9, wanted], 0))

    def test_flip(self):
        for number, wanted in ((0, 1), (1, 0), (-1, 0), (2, 0), (BIG, 0)):
            self.told([("flip",)], [9, number], 0, ("done", [], [9, wanted], 0))

    def test_say(self):
        self.told([SAY], [5, 6], 0, ("done", [6], [5], 0))
        self.told([SAY, SAY, ("push", 6), SAY], [5, 6], 0, ("done", [6, 5, 6], [], 0))

    def test_skip(self):
        self.told([("skip", 0)] + push(1, 2, 3), [], 0, ("done", [], [1, 2, 3], 0))
        self.told([("skip", 1)] + push(1, 2, 3), [], 0, ("done", [], [2, 3], 0))
        self.told([("skip", 3)] + push(1, 2, 3), [], 0, ("done", [], [], 0))
        self.told(push(1) + [("skip", 1)] + push(2, 3), [], 0, ("done", [], [1, 3], 0))

    def test_fork_at_nought(self):
        self.told([("fork", 0)] + push(1, 2, 3), [9, 0], 0, ("done", [], [9, 1, 2, 3], 0))
        self.told([("fork", 1)] + push(1, 2, 3), [9, 0], 0, ("done", [], [9, 2, 3], 0))
        self.told([("fork", 3)] + push(1, 2, 3), [9, 0], 0, ("done", [], [9], 0))

    def test_fork_at_another_number(self):
        for number in (1, -1, 2, BIG, -BIG):
            for count in (0, 1, 3):
                self.told([("fork", count)] + push(1, 2, 3), [9, number], 0, ("done", [], [9, 1, 2, 3], 0))

    def test_burn(self):
        self.told([BURN], [5], 1, ("done", [], [5], 1))
        self.told([BURN, BURN], [5], 9, ("done", [], [5], 2))

    def test_back(self):
        # Three, two, one are said; each turn but the last goes back to the first card.
        turn = [("load", 0), SAY, ("load", 0), ("push", 1), ("sub",), ("store", 0), ("load", 0), ("fork", 1)]
        cards = turn + [("back", 8)]
        self.told(cards, [3], 9, ("done", [3, 2, 1], [0], 2))
        self.told(cards, [1], 0, ("done", [1], [0], 0))

    def test_back_over_none_goes_on_with_itself(self):
        self.told([("back", 0)], [5], 4, ("dry", [], [5], 4))

    def test_back_to_a_card_between(self):
        cards = push(7) + [("push", 1), SAY, ("back", 2)]
        self.told(cards, [], 2, ("dry", [1, 1, 1], [7], 2))

    def test_numbers_of_any_size(self):
        self.told([("mul",)], [10 ** 500, -10 ** 500], 0, ("done", [], [-10 ** 1000], 0))
        self.told([("less",)], [BIG - 1, BIG], 0, ("done", [], [1], 0))
        self.told([("same",)], [BIG - 1, BIG], 0, ("done", [], [0], 0))
        squared = [("load", 0), ("load", 0), ("mul",), ("store", 0)] * 12
        self.told(squared + [("load", 0), SAY], [10], 0, ("done", [10 ** 4096], [10 ** 4096], 0))
        self.told(squared * 2, [-1], 0, ("done", [], [1], 0))


class Ends(Case):
    def test_dry_at_a_burn(self):
        self.told([BURN], [5], 0, ("dry", [], [5], 0))
        self.told([("push", 6), BURN, ("push", 7)], [5], 0, ("dry", [], [5, 6], 0))
        self.told([BURN, ("push", 6), SAY, BURN, ("push", 7)], [5], 1, ("dry", [6], [5], 1))

    def test_dry_at_a_back(self):
        for count in (-BIG, -1, 0, 1, 2, 3, BIG):
            self.told([("push", 6), ("back", count), ("push", 7)], [5], 0, ("dry", [], [5, 6], 0))
            self.told([BURN, ("back", count)], [5], 1, ("dry", [], [5], 1))

    def test_just_enough_one_too_few_and_none(self):
        cards = [BURN, ("push", 1), SAY, BURN, ("push", 2), SAY, BURN]
        self.told(cards, [], 0, ("dry", [], [], 0))
        self.told(cards, [], 1, ("dry", [1], [], 1))
        self.told(cards, [], 2, ("dry", [1, 2], [], 2))
        self.told(cards, [], 3, ("done", [1, 2], [], 3))
        self.told(cards, [], 4, ("done", [1, 2], [], 3))

    def test_just_enough_for_a_back(self):
        # Goes back once, since the second time the fork leaves the back out.
        cards = [("fork", 2), ("push", 0), ("back", 2), ("push", 8)]
        self.told(cards, [5], 0, ("dry", [], [0], 0))
        self.told(cards, [5], 1, ("done", [], [8], 1))
        self.told(cards, [5], 2, ("done", [], [8], 1))

    def test_other_cards_need_no_oil(self):
        cards = push(1, 2) + [("add",), ("push", 3), ("sub",), ("flip",), ("fork", 0), ("skip", 0), ("load", 0), SAY]
        self.told(cards, [4], 0, ("done", [4], [4], 0))

    def test_cards_behind_the_last_one_burnt_are_done(self):
        self.told([BURN, ("push", 1), SAY], [], 1, ("done", [1], [], 1))

    def test_five_hundred_drops(self):
        cards = [("load", 0), ("push", 1), ("add",), ("store", 0), ("back", 4)]
        self.told(cards, [0], 500, ("dry", [], [501], 500))
        self.told([BURN] * 500, [], 500, ("done", [], [], 500))
        self.told([BURN] * 501, [], 500, ("dry", [], [], 500))


class Jams(Case):
    def test_an_empty_pile(self):
        for card in TAKING_ONE + TAKING_TWO:
            with self.subTest(card=card):
                self.jammed([card], [])
                self.jammed([("push", 1), ("drop",), card], [])
                self.jammed([card], [], 0)

    def test_one_number_where_one_is_taken(self):
        self.told([("drop",)], [1], 0, ("done", [], [], 0))
        self.told([("flip",)], [1], 0, ("done", [], [0], 0))
        self.told([SAY], [1], 0, ("done", [1], [], 0))
        self.told([("fork", 0)], [1], 0, ("done", [], [], 0))
        self.told([("fork", 0)], [0], 0, ("done", [], [], 0))
        self.jammed([("store", 0)], [1])

    def test_one_number_where_two_are_taken(self):
        for card in TAKING_TWO:
            with self.subTest(card=card):
                self.jammed([card], [1])
                self.jammed([("push", 0), card], [])
                self.assertEqual(len(ran([card], [1, 2], 0)[2]), 1)
                self.assertEqual(len(diary([card], [1, 2], 0)), 2)

    def test_load(self):
        for size in (1, 2, 5):
            pile = list(range(10, 10 + size))
            self.told([("load", size - 1)], pile, 0, ("done", [], pile + [pile[-1]], 0))
            self.told([("load", 0)], pile, 0, ("done", [], pile + [10], 0))
            for place in (-BIG, -size, -1, size, size + 1, BIG):
                self.jammed([("load", place)], pile)
        self.jammed([("load", 0)], [])
        self.jammed([("load", -1)], [])

    def test_store(self):
        for size in (1, 2, 5):
            pile = list(range(10, 10 + size))
            self.told([("store", size - 1)], pile + [7], 0, ("done", [], pile[:-1] + [7], 0))
            self.told([("store", 0)], pile + [7], 0, ("done", [], [7] + pile[1:], 0))
            for place in (-BIG, -size, -1, size, size + 1, BIG):
                self.jammed([("store", place)], pile + [7])
        for place in (-1, 0, 1):
            self.jammed([("store", place)], [7])

    def test_skip(self):
        for behind in (0, 1, 3):
            cards = push(*range(behind))
            self.told([("skip", behind)] + cards, [], 0, ("done", [], [], 0))
            self.told([("push", 9), ("skip", behind)] + cards, [], 0, ("done", [], [9], 0))
            for count in (-BIG, -1, behind + 1, behind + 2, BIG):
                self.jammed([("skip", count)] + cards, [])
                self.jammed([("push", 9), ("skip", count)] + cards, [])

    def test_fork_at_nought(self):
        for behind in (0, 1, 3):
            cards = push(*range(behind))
            self.told([("fork", behind)] + cards, [0], 0, ("done", [], [], 0))
            self.told([("push", 0), ("fork", behind)] + cards, [], 0, ("done", [], [], 0))
            for count in (-BIG, -1, behind + 1, behind + 2, BIG):
                self.jammed([("fork", count)] + cards, [0])
                self.jammed([("push", 0), ("fork", count)] + cards, [])

    def test_fork_at_another_number_with_any_count(self):
        for number in (1, -1, 5):
            for count in (-BIG, -1, 0, 1, 2, 3, BIG):
                self.told([("fork", count), ("push", 4)], [number], 0, ("done", [], [4], 0))

    def test_fork_at_another_number_still_takes_it_off(self):
        self.jammed([("fork", 0), ("drop",)], [1])

    def test_back(self):
        for before in (0, 1, 3):
            cards = [("skip", 0)] * before
            for oil in (1, 2):
                self.told(cards + [("back", before)], [5], oil, ("dry", [], [5], oil))
                self.told(cards + [("back", 0)], [5], oil, ("dry", [], [5], oil))
                for count in (-BIG, -1, before + 1, before + 2, BIG):
                    self.jammed(cards + [("back", count)], [5], oil)
                    self.jammed(cards + [("back", count), ("push", 1), ("push", 2)], [5], oil)

    def test_back_without_oil_is_dry(self):
        for count in (-BIG, -1, 0, 1, 2, BIG):
            self.told([("back", count)], [5], 0, ("dry", [], [5], 0))
            self.told([BURN, ("back", count), ("push", 1)], [5], 1, ("dry", [], [5], 1))

    def test_back_with_the_last_drop(self):
        self.jammed([BURN, ("back", 2)], [5], 2)
        self.told([BURN, ("back", 1)], [5], 2, ("dry", [], [5], 2))

    def test_a_jam_behind_what_was_said(self):
        self.jammed([("push", 1), SAY, BURN, ("drop",)], [])

    def test_dry_ahead_of_a_jam(self):
        self.told([BURN, ("drop",)], [], 0, ("dry", [], [], 0))
        self.jammed([BURN, ("drop",)], [], 1)

    def test_cards_that_are_not_come_to(self):
        wrong = [(word, count) for word in ("load", "store", "skip", "fork", "back") for count in (-BIG, -1, 50, BIG)]
        wrong += TAKING_ONE + TAKING_TWO
        for card in wrong:
            with self.subTest(card=card):
                self.told([("skip", 1), card], [], 0, ("done", [], [], 0))
                self.told([("skip", 2), card, card], [], 5, ("done", [], [], 0))
                self.told([("push", 0), ("fork", 1), card, ("push", 3)], [], 5, ("done", [], [3], 0))
                self.told([BURN, card], [], 0, ("dry", [], [], 0))


class Diary(unittest.TestCase):
    def kept(self, cards, pile, oil, wanted):
        handed = (cards, pile)
        before = copied(handed)
        got = diary(cards, pile, oil)
        self.assertEqual(got, wanted)
        self.assertIsInstance(got, list)
        for state in got:
            self.assertEqual([type(value) for value in state], [int, list, int])
            self.assertIsInstance(state, tuple)
            self.assertIsNot(state[1], pile)
        self.assertEqual(handed, before)

    def test_no_card(self):
        self.kept([], [], 0, [(0, [], 0)])
        self.kept([], [3, 4], 9, [(0, [3, 4], 9)])

    def test_state_by_state(self):
        cards = [
            BURN, ("push", 6), ("load", 0), ("sub",), ("store", 0), ("push", 2), ("flip",), ("drop",),
            ("push", 3), ("load", 0), ("less",), SAY,
        ]
        self.kept(cards, [5], 2, [
            (0, [5], 2),
            (1, [5], 1),
            (2, [5, 6], 1),
            (3, [5, 6, 5], 1),
            (4, [5, 1], 1),
            (5, [1], 1),
            (6, [1, 2], 1),
            (7, [1, 0], 1),
            (8, [1], 1),
            (9, [1, 3], 1),
            (10, [1, 3, 1], 1),
            (11, [1, 0], 1),
            (12, [1], 1),
        ])

    def test_skip_and_fork(self):
        cards = [("skip", 1), ("push", 9), ("push", 0), ("fork", 2), ("push", 9), ("push", 9), ("push", 1), ("fork", 1)]
        self.kept(cards, [], 0, [(0, [], 0), (2, [], 0), (3, [0], 0), (6, [], 0), (7, [1], 0), (8, [], 0)])

    def test_over_all_the_cards_left(self):
        self.kept([("skip", 2), BURN, BURN], [4], 3, [(0, [4], 3), (3, [4], 3)])
        self.kept([("fork", 2), BURN, BURN], [0], 3, [(0, [0], 3), (3, [], 3)])

    def test_back(self):
        cards = [("fork", 2), ("push", 0), ("back", 2), ("push", 8)]
        self.kept(cards, [5], 3, [
            (0, [5], 3), (1, [], 3), (2, [0], 3), (0, [0], 2), (3, [], 2), (4, [8], 2),
        ])

    def test_dry_at_a_burn(self):
        self.kept([BURN], [5], 0, [(0, [5], 0)])
        self.kept([("push", 6), BURN, ("push", 7)], [5], 0, [(0, [5], 0), (1, [5, 6], 0)])
        self.kept([BURN, BURN, BURN], [], 2, [(0, [], 2), (1, [], 1), (2, [], 0)])

    def test_dry_at_a_back(self):
        for count in (-1, 0, 1, 2, BIG):
            self.kept([("push", 6), ("back", count)], [5], 0, [(0, [5], 0), (1, [5, 6], 0)])
        self.kept([("push", 6), ("back", 1)], [], 2, [
            (0, [], 2), (1, [6], 2), (0, [6], 1), (1, [6, 6], 1), (0, [6, 6], 0), (1, [6, 6, 6], 0),
        ])
        self.kept([("back", 0)], [], 3, [(0, [], 3), (0, [], 2), (0, [], 1), (0, [], 0)])

    def test_just_enough(self):
        self.kept([BURN, ("push", 1), BURN], [], 2, [(0, [], 2), (1, [], 1), (2, [1], 1), (3, [1], 0)])
        self.kept([BURN, ("push", 1), BURN], [], 1, [(0, [], 1), (1, [], 0), (2, [1], 0)])

    def test_each_pile_is_a_list_of_its_own(self):
        pile = [5]
        states = diary([("skip", 0), ("skip", 0)], pile, 0)
        states[0][1].append(9)
        self.assertEqual(states[1:], [(1, [5], 0), (2, [5], 0)])
        self.assertEqual(pile, [5])


class HandedIn(unittest.TestCase):
    def test_each_time_anew(self):
        cards = [("push", 1), SAY]
        pile = [5]
        first = ran(cards, pile, 0)
        first[1].append(9)
        first[2].append(9)
        self.assertEqual(ran(cards, pile, 0), ("done", [1], [5], 0))
        self.assertEqual(pile, [5])

    def test_the_pile_is_a_list_of_its_own(self):
        pile = [5]
        ran([], pile, 0)[2].append(9)
        self.assertEqual(pile, [5])


if __name__ == "__main__":
    unittest.main()
