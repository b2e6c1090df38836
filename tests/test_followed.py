import unittest

from jarcards.errors import JarError, NoName
from jarcards.orders import followed
from made import Maker, always, copied, deep_both, deep_not, deep_orders, deep_sum, name, never, num

BIG = 10 ** 32 - 1


def bump(jar, by=1):
    return ("set", jar, ("add", name(jar), num(by)))


def below(jar, bound):
    return ("less", name(jar), num(bound))


class Case(unittest.TestCase):
    def same(self, names, block, starts, oil, wanted):
        handed = ((names, block), starts)
        before = copied(handed)
        got = followed((names, block), starts, oil)
        self.assertEqual(got, wanted)
        self.assertEqual([type(value) for value in got], [str, list, list, int])
        self.assertEqual(handed, before)

    def refused(self, names, block, starts, oil):
        handed = ((names, block), starts)
        before = copied(handed)
        with self.assertRaises(NoName):
            followed((names, block), starts, oil)
        with self.assertRaises(JarError):
            followed((names, block), starts, oil)
        self.assertEqual(handed, before)


class EachOrder(Case):
    def test_nothing(self):
        self.same([], [], [], 0, ("done", [], [], 0))
        self.same([], [], [], 500, ("done", [], [], 0))
        self.same(["a", "b"], [], [3, -4], 0, ("done", [], [3, -4], 0))

    def test_set(self):
        self.same(["a", "b"], [("set", "a", num(7))], [1, 2], 9, ("done", [], [7, 2], 1))
        self.same(["a", "b"], [("set", "b", name("a"))], [1, 2], 9, ("done", [], [1, 1], 1))
        self.same(["a", "b"], [bump("a"), ("set", "b", name("a")), bump("a")], [1, 2], 9, ("done", [], [3, 2], 3))

    def test_set_holds_from_then_on(self):
        block = [("say", name("a")), ("set", "a", num(5)), ("say", name("a")), ("say", name("a"))]
        self.same(["a"], block, [1], 9, ("done", [1, 5, 5], [5], 4))

    def test_say(self):
        block = [("say", num(3)), ("say", ("sub", name("a"), num(10))), ("say", num(3))]
        self.same(["a"], block, [1], 9, ("done", [3, -9, 3], [1], 3))

    def test_when(self):
        for test, wanted in ((always(), [1, 2, 9]), (never(), [3, 4, 9])):
            block = [
                ("when", test, [("say", num(1)), ("say", num(2))], [("say", num(3)), ("say", num(4))]),
                ("say", num(9)),
            ]
            self.same([], block, [], 9, ("done", wanted, [], 4))

    def test_when_with_empty_blocks(self):
        self.same([], [("when", always(), [], [("say", num(1))])], [], 9, ("done", [], [], 1))
        self.same([], [("when", never(), [("say", num(1))], [])], [], 9, ("done", [], [], 1))

    def test_when_looks_once(self):
        block = [("when", below("a", 1), [bump("a"), ("say", num(1))], [("say", num(2))])]
        self.same(["a"], block, [0], 9, ("done", [1], [1], 3))

    def test_while_of_no_turn(self):
        self.same(["a"], [("while", below("a", 0), [("say", num(1))])], [0], 9, ("done", [], [0], 1))

    def test_while_of_one_turn(self):
        self.same(["a"], [("while", below("a", 1), [bump("a")])], [0], 9, ("done", [], [1], 3))

    def test_while_of_several_turns(self):
        block = [("while", below("a", 3), [("say", name("a")), bump("a")]), ("say", num(-1))]
        self.same(["a"], block, [0], 99, ("done", [0, 1, 2, -1], [3], 1 + 3 * 3 + 1))

    def test_while_with_an_empty_block(self):
        self.same([], [("while", always(), [])], [], 7, ("dry", [], [], 7))
        self.same([], [("while", never(), [])], [], 7, ("done", [], [], 1))

    def test_while_within_while(self):
        inner = ("while", below("b", 2), [bump("b"), ("say", name("b"))])
        block = [("while", below("a", 2), [bump("a"), ("set", "b", num(0)), inner])]
        self.same(["a", "b"], block, [0, 9], 99, ("done", [1, 2, 1, 2], [2, 2], 1 + 2 * (2 + 1 + 2 * 3 + 1)))

    def test_with(self):
        block = [("with", "x", num(5), [bump("x"), ("say", name("x")), ("set", "a", name("x"))])]
        self.same(["a"], block, [1], 9, ("done", [6], [6], 4))

    def test_with_of_an_empty_block(self):
        self.same(["a"], [("with", "x", num(5), []), ("say", name("a"))], [1], 9, ("done", [1], [1], 2))

    def test_with_whose_jar_has_the_name_of_another(self):
        block = [
            ("with", "a", ("add", name("a"), num(10)), [("say", name("a")), bump("a"), ("say", name("a"))]),
            ("say", name("a")),
            bump("a"),
        ]
        self.same(["a", "b"], block, [1, 2], 9, ("done", [11, 12, 1], [2, 2], 6))

    def test_with_within_with_of_one_name(self):
        inner = ("with", "x", ("mul", name("x"), num(2)), [("say", name("x")), ("set", "x", num(0))])
        block = [("with", "x", num(3), [inner, ("say", name("x")), inner])]
        self.same([], block, [], 9, ("done", [6, 3, 6], [], 8))

    def test_with_hides_only_its_own_name(self):
        block = [("with", "b", num(7), [("set", "a", name("b")), ("set", "b", num(8)), ("say", name("b"))])]
        self.same(["a", "b"], block, [1, 2], 9, ("done", [8], [7, 2], 4))

    def test_with_in_a_while_begins_anew(self):
        block = [("while", below("a", 2), [("with", "x", name("a"), [bump("x"), ("say", name("x"))]), bump("a")])]
        self.same(["a"], block, [0], 99, ("done", [1, 2], [2], 1 + 2 * 5))

    def test_a_while_in_a_with_uses_its_jar(self):
        block = [("with", "a", num(0), [("while", below("a", 2), [bump("a")])]), ("say", name("a"))]
        self.same(["a"], block, [50], 99, ("done", [50], [50], 2 + 2 * 2 + 1))

    def test_numbers_of_any_size(self):
        block = [("set", "a", ("mul", name("a"), name("a"))), ("say", ("sub", num(-BIG), name("a")))]
        self.same(["a"], block, [10 ** 90], 2, ("done", [-BIG - 10 ** 180], [10 ** 180], 2))
        block = [("while", ("less", name("a"), num(BIG)), [("set", "a", ("mul", name("a"), num(-BIG)))])]
        self.same(["a"], block, [-1], 4, ("done", [], [BIG], 3))


class Oil(Case):
    def test_an_order_burns_ahead_of_all_else(self):
        orders = [
            ("set", "a", num(7)),
            ("say", num(7)),
            ("when", always(), [], []),
            ("while", never(), []),
            ("with", "x", num(7), []),
        ]
        for order in orders:
            with self.subTest(order=order):
                self.same(["a"], [order], [1], 0, ("dry", [], [1], 0))
                self.same(["a"], [("say", num(1)), order], [1], 1, ("dry", [1], [1], 1))

    def test_just_enough(self):
        self.same(["a"], [("set", "a", num(7))], [1], 1, ("done", [], [7], 1))
        self.same(["a"], [("say", num(7))], [1], 1, ("done", [7], [1], 1))
        self.same(["a"], [("when", always(), [], [])], [1], 1, ("done", [], [1], 1))
        self.same(["a"], [("while", never(), [])], [1], 1, ("done", [], [1], 1))
        self.same(["a"], [("with", "x", num(7), [])], [1], 1, ("done", [], [1], 1))

    def test_two_orders(self):
        block = [("say", num(1)), ("set", "a", num(2))]
        self.same(["a"], block, [0], 0, ("dry", [], [0], 0))
        self.same(["a"], block, [0], 1, ("dry", [1], [0], 1))
        self.same(["a"], block, [0], 2, ("done", [1], [2], 2))
        self.same(["a"], block, [0], 3, ("done", [1], [2], 2))

    def test_dry_within_a_when(self):
        for test in (always(), never()):
            block = [("when", test, [("say", num(1)), ("say", num(2))], [("say", num(1)), ("say", num(2))])]
            self.same([], block, [], 1, ("dry", [], [], 1))
            self.same([], block, [], 2, ("dry", [1], [], 2))
            self.same([], block, [], 3, ("done", [1, 2], [], 3))

    def test_the_drop_at_the_end_of_a_turn(self):
        block = [("while", below("a", 2), [bump("a"), ("say", name("a"))])]
        wanted = [
            ("dry", [], [0], 0),
            ("dry", [], [0], 1),
            ("dry", [], [1], 2),
            ("dry", [1], [1], 3),
            ("dry", [1], [1], 4),
            ("dry", [1], [2], 5),
            ("dry", [1, 2], [2], 6),
            ("done", [1, 2], [2], 7),
            ("done", [1, 2], [2], 7),
        ]
        for oil, told in enumerate(wanted):
            with self.subTest(oil=oil):
                self.same(["a"], block, [0], oil, told)

    def test_the_last_turn_burns_too(self):
        block = [("while", below("a", 1), [bump("a")])]
        self.same(["a"], block, [0], 2, ("dry", [], [1], 2))
        self.same(["a"], block, [0], 3, ("done", [], [1], 3))

    def test_nothing_is_burnt_at_the_end_of_other_blocks(self):
        block = [("with", "x", num(1), [("when", always(), [("say", name("x"))], [])])]
        self.same([], block, [], 3, ("done", [1], [], 3))
        self.same([], block, [], 2, ("dry", [], [], 2))

    def test_dry_ends_all_at_once(self):
        inner = ("while", always(), [("when", always(), [("say", num(1))], [])])
        block = [("with", "x", num(1), [inner, ("say", num(2))]), ("say", num(3)), ("set", "a", num(9))]
        self.same(["a"], block, [4], 6, ("dry", [1], [4], 6))
        self.same(["a"], block, [4], 7, ("dry", [1, 1], [4], 7))

    def test_dry_within_a_with_tells_only_the_jars_of_names(self):
        block = [("with", "a", num(5), [("with", "x", num(6), [bump("a"), bump("x"), ("set", "b", name("x"))])])]
        self.same(["a", "b"], block, [1, 2], 1, ("dry", [], [1, 2], 1))
        self.same(["a", "b"], block, [1, 2], 2, ("dry", [], [1, 2], 2))
        self.same(["a", "b"], block, [1, 2], 4, ("dry", [], [1, 2], 4))
        self.same(["a", "b"], block, [1, 2], 5, ("done", [], [1, 7], 5))
        self.same([], [("with", "x", num(6), [("say", name("x"))])], [], 1, ("dry", [], [], 1))

    def test_five_hundred_drops(self):
        block = [("while", always(), [bump("a")])]
        self.same(["a"], block, [0], 500, ("dry", [], [250], 500))
        self.same(["a"], block, [0], 499, ("dry", [], [249], 499))
        self.same(["a"], [("while", below("a", 249), [bump("a")])], [0], 500, ("done", [], [249], 499))

    def test_two_hundred_orders(self):
        block = [("say", num(turn)) for turn in range(200)]
        self.same([], block, [], 500, ("done", list(range(200)), [], 200))
        self.same([], block, [], 199, ("dry", list(range(199)), [], 199))

    def test_less_oil_is_the_same_way_cut_short(self):
        maker = Maker(6)
        for turn in range(150):
            program = maker.program()
            starts = maker.starts(program)
            most = 12
            word, said, values, used = followed(program, starts, most)
            self.assertEqual(word == "dry" and used < most, False)
            for oil in range(most):
                cut = followed(program, starts, oil)
                if word == "done" and oil >= used:
                    self.assertEqual(cut, (word, said, values, used))
                else:
                    self.assertEqual((cut[0], cut[3]), ("dry", oil))
                    self.assertEqual(cut[1], said[:len(cut[1])])
                    self.assertEqual(len(cut[2]), len(program[0]))


class Refused(Case):
    def test_a_stranger_that_is_come_to(self):
        self.refused([], [("say", name("p"))], [], 9)
        self.refused(["a"], [("set", "p", num(1))], [1], 9)
        self.refused([], [("with", "x", name("x"), [])], [], 9)
        self.refused([], [("with", "x", num(0), []), ("say", name("x"))], [], 9)

    def test_a_stranger_that_would_not_be_come_to(self):
        use = [("say", name("p"))]
        self.refused(["a"], [("when", always(), [], use)], [1], 9)
        self.refused(["a"], [("when", never(), use, [])], [1], 9)
        self.refused(["a"], [("while", never(), use)], [1], 9)
        self.refused(["a"], [("while", always(), [])] + use, [1], 9)
        self.refused(["a"], [("with", "x", num(0), [("when", never(), [("set", "p", num(1))], [])])], [1], 9)
        unseen = ("both", never(), ("same", name("p"), num(0)))
        self.refused([], [("when", unseen, [], [])], [], 9)

    def test_a_stranger_without_oil(self):
        self.refused([], [("say", name("p"))], [], 0)
        self.refused([], [("say", num(1)), ("say", name("p"))], [], 1)

    def test_a_name_that_only_begins_alike(self):
        self.refused(["ab"], [("say", name("a"))], [1], 9)
        self.refused(["a"], [("say", name("ab"))], [1], 9)


class HandedIn(Case):
    def test_each_time_anew(self):
        program = (["a"], [("with", "x", num(2), [bump("a"), ("say", name("a"))])])
        starts = [1]
        first = followed(program, starts, 9)
        first[1].append(99)
        first[2].append(99)
        self.assertEqual(followed(program, starts, 9), ("done", [2], [2], 3))
        self.assertEqual(starts, [1])

    def test_the_values_are_a_list_of_their_own(self):
        starts = [1, 2]
        told = followed((["a", "b"], []), starts, 0)
        told[2].append(3)
        self.assertEqual(starts, [1, 2])

    def test_blocks_stay(self):
        block = [("while", below("a", 3), [("with", "x", num(1), [bump("a")])])]
        for oil in range(20):
            program = (["a"], block)
            before = copied(program)
            followed(program, [0], oil)
            self.assertEqual(program, before)

    def test_a_block_that_stands_twice(self):
        block = [bump("a"), ("say", name("a"))]
        program = (["a"], [("when", always(), block, block), ("when", never(), block, block)])
        self.assertEqual(followed(program, [0], 9), ("done", [1, 2], [2], 6))


class Deep(Case):
    def test_orders(self):
        for count in (100, 150):
            block = deep_orders(bump("a"), count)
            self.assertEqual(followed((["a"], block), [1], 500)[:3], ("done", [], [2]))

    def test_orders_of_one_kind(self):
        kinds = [
            lambda block: [("when", always(), block, [])],
            lambda block: [("when", never(), [], block)],
            lambda block: [("with", "x", num(1), block)],
            lambda block: [("while", below("a", 1), block)],
        ]
        for depth in (150, 199):
            for place, wrapped in enumerate(kinds):
                block = [bump("a")]
                for turn in range(depth - 1):
                    block = wrapped(block)
                used = depth if place < 3 else 2 * depth - 1
                self.same(["a"], block, [0], 500, ("done", [], [1], used))
                self.same(["a"], block, [0], depth - 1, ("dry", [], [0], depth - 1))

    def test_sums_and_tests(self):
        for depth in (148, 200):
            self.same(["a"], [("say", deep_sum("add", name("a"), num(1), depth))], [0], 1, ("done", [depth - 1], [0], 1))
            self.same([], [("when", deep_not(always(), depth), [("say", num(1))], [])], [], 2, ("done", [1], [], 2))
            self.same([], [("while", deep_both(never(), always(), depth), [])], [], 2, ("done", [], [], 1))


if __name__ == "__main__":
    unittest.main()
