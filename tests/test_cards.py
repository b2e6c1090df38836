import unittest

from jarcards.cards import cards_of, sum_cards, test_cards
from jarcards.errors import JarError, NoName
from jarcards.machine import ran
from jarcards.sums import holds, worth
from made import BIG, Maker, always, copied, deep_both, deep_not, deep_orders, deep_sum, name, never, num

BURN = ("burn",)


class Case(unittest.TestCase):
    def made(self, function, handed, wanted):
        before = copied(handed)
        got = function(*handed)
        self.assertEqual(got, wanted)
        self.assertIsInstance(got, list)
        for card in got:
            self.assertIsInstance(card, tuple)
        self.assertEqual(handed, before)

    def of_sum(self, part, names, wanted):
        self.made(sum_cards, (part, names), wanted)

    def of_test(self, test, names, wanted):
        self.made(test_cards, (test, names), wanted)

    def of_block(self, names, block, wanted):
        self.made(cards_of, ((names, block),), wanted)


class Sums(Case):
    def test_num(self):
        for number in (0, 1, -1, BIG, -BIG):
            self.of_sum(num(number), [], [("push", number)])
            self.of_sum(num(number), ["a"], [("push", number)])

    def test_name(self):
        self.of_sum(name("a"), ["a"], [("load", 0)])
        self.of_sum(name("a"), ["a", "b", "cd"], [("load", 0)])
        self.of_sum(name("b"), ["a", "b", "cd"], [("load", 1)])
        self.of_sum(name("cd"), ["a", "b", "cd"], [("load", 2)])

    def test_a_name_that_two_jars_have(self):
        self.of_sum(name("a"), ["a", "b", "a"], [("load", 2)])
        self.of_sum(name("a"), ["a", "b", "a", "c"], [("load", 2)])
        self.of_sum(name("b"), ["a", "b", "a", "a"], [("load", 1)])

    def test_pairs(self):
        for word in ("add", "sub", "mul"):
            self.of_sum((word, num(3), name("b")), ["a", "b"], [("push", 3), ("load", 1), (word,)])
            self.of_sum((word, name("a"), num(0)), ["a", "b"], [("load", 0), ("push", 0), (word,)])

    def test_one_within_the_other(self):
        part = ("sub", ("mul", num(1), name("a")), ("add", name("b"), ("mul", num(2), num(3))))
        self.of_sum(part, ["a", "b"], [
            ("push", 1), ("load", 0), ("mul",),
            ("load", 1), ("push", 2), ("push", 3), ("mul",), ("add",),
            ("sub",),
        ])

    def test_nothing_is_reckoned_ahead(self):
        self.of_sum(("add", num(0), num(0)), [], [("push", 0), ("push", 0), ("add",)])
        self.of_sum(("mul", name("a"), num(1)), ["a"], [("load", 0), ("push", 1), ("mul",)])

    def test_they_lay_the_worth_on_the_pile(self):
        maker = Maker(21)
        row = ["a", "b", "a"]
        for turn in range(300):
            part = maker.sum(row, 4)
            values = maker.starts((row, []))
            self.assertEqual(
                ran(sum_cards(part, row), values, 0),
                ("done", [], values + [worth(part, row, values)], 0),
            )

    def test_deep(self):
        for depth in (150, 200):
            cards = sum_cards(deep_sum("add", name("a"), num(1), depth), ["a"])
            self.assertEqual(len(cards), 2 * depth - 1)
            self.assertEqual(ran(cards, [5], 0), ("done", [], [5, 5 + depth - 1], 0))


class Tests(Case):
    def test_less_and_same(self):
        for word in ("less", "same"):
            self.of_test((word, name("b"), num(-4)), ["a", "b"], [("load", 1), ("push", -4), (word,)])
            inner = ("sub", name("a"), num(1))
            self.of_test((word, inner, name("a")), ["a"], [("load", 0), ("push", 1), ("sub",), ("load", 0), (word,)])

    def test_not(self):
        plain = [("push", 0), ("push", 0), ("same",)]
        self.of_test(("not", always()), [], plain + [("flip",)])
        self.of_test(("not", ("not", always())), [], plain + [("flip",), ("flip",)])

    def test_both(self):
        self.of_test(("both", ("less", name("a"), num(5)), ("same", name("a"), num(6))), ["a"], [
            ("load", 0), ("push", 5), ("less",),
            ("fork", 4),
            ("load", 0), ("push", 6), ("same",),
            ("skip", 1),
            ("push", 0),
        ])

    def test_the_fork_of_a_both_goes_over_all_of_the_second(self):
        second = ("not", ("less", ("add", name("a"), num(1)), num(2)))
        self.of_test(("both", always(), second), ["a"], [
            ("push", 0), ("push", 0), ("same",),
            ("fork", 7),
            ("load", 0), ("push", 1), ("add",), ("push", 2), ("less",), ("flip",),
            ("skip", 1),
            ("push", 0),
        ])

    def test_both_within_both(self):
        plain = [("push", 0), ("push", 0), ("same",)]
        once = plain + [("fork", 4)] + plain + [("skip", 1), ("push", 0)]
        both = ("both", always(), always())
        self.of_test(both, [], once)
        self.of_test(("both", both, always()), [], once + [("fork", 4)] + plain + [("skip", 1), ("push", 0)])
        self.of_test(("both", always(), both), [], plain + [("fork", 10)] + once + [("skip", 1), ("push", 0)])
        self.of_test(("both", both, both), [], once + [("fork", 10)] + once + [("skip", 1), ("push", 0)])

    def test_a_not_around_and_within_a_both(self):
        plain = [("push", 0), ("push", 0), ("same",)]
        both = ("both", ("not", always()), ("not", always()))
        wanted = plain + [("flip",), ("fork", 5)] + plain + [("flip",), ("skip", 1), ("push", 0)]
        self.of_test(both, [], wanted)
        self.of_test(("not", both), [], wanted + [("flip",)])

    def test_the_last_jar_of_a_name_is_meant(self):
        self.of_test(("same", name("a"), name("b")), ["a", "b", "a"], [("load", 2), ("load", 1), ("same",)])

    def test_they_lay_one_or_nought_on_the_pile(self):
        maker = Maker(22)
        row = ["a", "b", "a"]
        seen = set()
        for turn in range(300):
            test = maker.test(row, 4)
            values = maker.starts((row, []))
            wanted = 1 if holds(test, row, values) else 0
            seen.add(wanted)
            self.assertEqual(ran(test_cards(test, row), values, 0), ("done", [], values + [wanted], 0))
        self.assertEqual(seen, {0, 1})

    def test_deep(self):
        for count in (148, 199):
            self.assertEqual(len(test_cards(deep_not(always(), count), [])), 3 + count)
            cards = test_cards(deep_both(always(), always(), count), [])
            self.assertEqual(len(cards), 3 + 6 * count)
            self.assertEqual(ran(cards, [], 0), ("done", [], [1], 0))
            self.assertEqual(ran(test_cards(deep_both(never(), always(), count), []), [], 0), ("done", [], [0], 0))


class EachOrder(Case):
    def test_nothing(self):
        self.of_block([], [], [])
        self.of_block(["a", "b"], [], [])

    def test_set(self):
        self.of_block(["a", "b"], [("set", "a", num(7))], [BURN, ("push", 7), ("store", 0)])
        self.of_block(["a", "b"], [("set", "b", name("a"))], [BURN, ("load", 0), ("store", 1)])
        self.of_block(["a"], [("set", "a", ("add", name("a"), num(1)))], [
            BURN, ("load", 0), ("push", 1), ("add",), ("store", 0),
        ])

    def test_say(self):
        self.of_block([], [("say", num(-3))], [BURN, ("push", -3), ("say",)])
        self.of_block(["a"], [("say", ("mul", name("a"), name("a")))], [
            BURN, ("load", 0), ("load", 0), ("mul",), ("say",),
        ])

    def test_one_after_the_other(self):
        self.of_block(["a"], [("say", num(1)), ("set", "a", num(2)), ("say", name("a"))], [
            BURN, ("push", 1), ("say",),
            BURN, ("push", 2), ("store", 0),
            BURN, ("load", 0), ("say",),
        ])

    def test_when(self):
        block = [("when", ("less", name("a"), num(5)), [("say", num(1))], [("say", num(2)), ("say", name("a"))])]
        self.of_block(["a"], block, [
            BURN, ("load", 0), ("push", 5), ("less",),
            ("fork", 4),
            BURN, ("push", 1), ("say",),
            ("skip", 6),
            BURN, ("push", 2), ("say",), BURN, ("load", 0), ("say",),
        ])

    def test_when_with_empty_blocks(self):
        head = [BURN, ("push", 0), ("push", 0), ("same",)]
        say = [BURN, ("push", 1), ("say",)]
        self.of_block([], [("when", always(), [], [])], head + [("fork", 1), ("skip", 0)])
        self.of_block([], [("when", always(), [("say", num(1))], [])], head + [("fork", 4)] + say + [("skip", 0)])
        self.of_block([], [("when", always(), [], [("say", num(1))])], head + [("fork", 1), ("skip", 3)] + say)

    def test_while(self):
        block = [("while", ("less", name("a"), num(5)), [("set", "a", num(9)), ("say", num(1))])]
        self.of_block(["a"], block, [
            BURN,
            ("load", 0), ("push", 5), ("less",),
            ("fork", 7),
            BURN, ("push", 9), ("store", 0), BURN, ("push", 1), ("say",),
            ("back", 10),
        ])

    def test_while_with_an_empty_block(self):
        self.of_block([], [("while", always(), [])], [
            BURN, ("push", 0), ("push", 0), ("same",), ("fork", 1), ("back", 4),
        ])

    def test_a_while_goes_back_to_the_first_card_of_its_test(self):
        test = ("both", always(), ("not", never()))
        cards = cards_of(([], [("say", num(1)), ("while", test, [("say", num(2))])]))
        self.assertEqual(cards[-1], ("back", len(cards) - 1 - 4))
        self.assertEqual(cards[4:4 + 10], test_cards(test, []))

    def test_with(self):
        self.of_block(["a"], [("with", "x", num(5), [("set", "a", name("x")), ("set", "x", name("a"))])], [
            BURN, ("push", 5),
            BURN, ("load", 1), ("store", 0),
            BURN, ("load", 0), ("store", 1),
            ("drop",),
        ])

    def test_with_of_an_empty_block(self):
        self.of_block([], [("with", "x", num(5), [])], [BURN, ("push", 5), ("drop",)])

    def test_with_whose_jar_has_the_name_of_another(self):
        block = [("with", "a", name("b"), [("set", "a", name("a")), ("say", name("b"))]), ("set", "a", name("a"))]
        self.of_block(["a", "b"], block, [
            BURN, ("load", 1),
            BURN, ("load", 2), ("store", 2),
            BURN, ("load", 1), ("say",),
            ("drop",),
            BURN, ("load", 0), ("store", 0),
        ])

    def test_the_sum_of_a_with_lies_outside_of_its_block(self):
        block = [("with", "a", ("add", name("a"), num(1)), [("with", "a", name("a"), [("say", name("a"))])])]
        self.of_block(["a", "b"], block, [
            BURN, ("load", 0), ("push", 1), ("add",),
            BURN, ("load", 2),
            BURN, ("load", 3), ("say",),
            ("drop",),
            ("drop",),
        ])

    def test_one_with_behind_the_other(self):
        use = [("say", name("x"))]
        cards = [BURN, ("push", 1), BURN, ("load", 1), ("say",), ("drop",)]
        self.of_block(["a"], [("with", "x", num(1), use), ("with", "x", num(1), use)], cards + cards)


class Within(Case):
    def test_orders_within_orders(self):
        inner_when = ("when", ("same", name("x"), num(0)), [("say", num(1))], [])
        loop = ("while", ("less", name("x"), name("a")), [inner_when, ("set", "x", ("add", name("x"), num(1)))])
        block = [("with", "x", num(0), [loop]), ("when", always(), [loop], [inner_when])]
        inner_when_cards = [
            BURN, ("load", 1), ("push", 0), ("same",), ("fork", 4), BURN, ("push", 1), ("say",), ("skip", 0),
        ]
        bump_cards = [BURN, ("load", 1), ("push", 1), ("add",), ("store", 1)]
        loop_cards = [BURN, ("load", 1), ("load", 0), ("less",), ("fork", 15)]
        loop_cards += inner_when_cards + bump_cards + [("back", 18)]
        self.of_block(["a", "x"], [loop], loop_cards)
        moved = [
            ("load", 2) if card == ("load", 1) else ("store", 2) if card == ("store", 1) else card
            for card in loop_cards
        ]
        self.of_block(
            ["a", "x"], block,
            [BURN, ("push", 0)] + moved + [("drop",)]
            + [BURN, ("push", 0), ("push", 0), ("same",), ("fork", 21)] + loop_cards + [("skip", 9)] + inner_when_cards,
        )

    def test_while_within_while(self):
        block = [("while", always(), [("while", never(), [])])]
        self.of_block([], block, [
            BURN, ("push", 0), ("push", 0), ("same",), ("fork", 7),
            BURN, ("push", 0), ("push", 0), ("less",), ("fork", 1), ("back", 4),
            ("back", 10),
        ])

    def test_deep(self):
        for count in (100, 150):
            cards = cards_of((["a"], deep_orders(("set", "a", num(2)), count)))
            self.assertEqual(ran(cards, [1], 500)[:3], ("done", [], [2]))

    def test_deep_withs_count_their_places(self):
        block = [("say", name("x"))]
        for turn in range(180):
            block = [("with", "x", num(turn), block)]
        cards = cards_of((["x"], block))
        self.assertIn(("load", 180), cards)
        self.assertEqual(ran(cards, [7], 181), ("done", [0], [7], 181))

    def test_two_hundred_orders(self):
        cards = cards_of(([], [("say", num(turn)) for turn in range(200)]))
        self.assertEqual(len(cards), 600)
        self.assertEqual(cards[597:], [BURN, ("push", 199), ("say",)])


class Refused(Case):
    def refused(self, names, block):
        program = (names, block)
        before = copied(program)
        with self.assertRaises(NoName):
            cards_of(program)
        with self.assertRaises(JarError):
            cards_of(program)
        self.assertEqual(program, before)

    def test_a_stranger_in_each_place(self):
        use = [("say", name("p"))]
        test = ("less", num(0), name("p"))
        self.refused([], use)
        self.refused(["a"], [("set", "p", num(1))])
        self.refused(["a"], [("set", "a", ("mul", num(0), name("p")))])
        self.refused(["a"], [("when", test, [], [])])
        self.refused(["a"], [("while", test, [])])
        self.refused(["a"], [("with", "x", name("p"), [])])
        self.refused(["a"], [("with", "x", num(0), use)])

    def test_a_stranger_that_would_not_be_come_to(self):
        use = [("say", name("p"))]
        self.refused(["a"], [("when", always(), [], use)])
        self.refused(["a"], [("when", never(), use, [])])
        self.refused(["a"], [("while", never(), use)])
        self.refused(["a"], [("while", always(), [])] + use)
        self.refused([], [("when", ("both", never(), ("same", name("p"), num(0))), [], [])])
        self.refused([], [("when", ("not", ("not", ("same", name("p"), num(0)))), [], [])])

    def test_the_jar_of_a_with_outside_of_its_block(self):
        self.refused([], [("with", "x", name("x"), [])])
        self.refused([], [("with", "x", num(0), []), ("say", name("x"))])
        self.refused([], [("say", name("x")), ("with", "x", num(0), [])])
        self.refused([], [("when", always(), [("with", "x", num(0), [])], [("set", "x", num(1))])])

    def test_a_name_that_only_begins_alike(self):
        self.refused(["ab"], [("say", name("a"))])
        self.refused(["a"], [("say", name("ab"))])


class HandedIn(Case):
    def test_each_time_anew(self):
        program = (["a"], [("with", "x", num(2), [("say", name("x"))])])
        first = cards_of(program)
        first.append(("drop",))
        self.assertEqual(len(cards_of(program)), 6)
        row = ["a"]
        sum_cards(name("a"), row).append(("drop",))
        test_cards(("same", name("a"), num(0)), row).append(("drop",))
        self.assertEqual(row, ["a"])
        self.assertEqual(sum_cards(name("a"), row), [("load", 0)])

    def test_made_programs_stay(self):
        maker = Maker(23)
        for turn in range(100):
            program = maker.program()
            before = copied(program)
            cards_of(program)
            self.assertEqual(program, before)


if __name__ == "__main__":
    unittest.main()
