import unittest

from jarcards.orders import followed, shorter, strangers
from made import Maker, always, copied, deep_not, deep_orders, deep_sum, name, never, num

A = name("a")
LONG = ("add", num(0), ("mul", A, ("sub", num(3), num(2))))
LONG_TEST = ("not", ("not", ("less", LONG, ("add", num(1), num(1)))))
SHORT_TEST = ("less", A, num(2))


class Shorter(unittest.TestCase):
    def same(self, names, block, wanted):
        program = (names, block)
        before = copied(program)
        got = shorter(program)
        self.assertEqual(got, (names, wanted))
        self.assertIs(type(got), tuple)
        self.assertEqual(program, before)

    def stays(self, names, block):
        self.same(names, block, block)

    def test_empty(self):
        self.stays([], [])
        self.stays(["b", "a"], [])

    def test_each_order(self):
        self.same(["a"], [("set", "a", LONG)], [("set", "a", A)])
        self.same(["a"], [("say", LONG)], [("say", A)])
        self.same(["a"], [("when", LONG_TEST, [], [])], [("when", SHORT_TEST, [], [])])
        self.same(["a"], [("while", LONG_TEST, [])], [("while", SHORT_TEST, [])])
        self.same(["a"], [("with", "x", LONG, [])], [("with", "x", A, [])])

    def test_each_block(self):
        long, short = [("say", LONG), ("say", LONG)], [("say", A), ("say", A)]
        self.same(["a"], [("when", SHORT_TEST, long, [])], [("when", SHORT_TEST, short, [])])
        self.same(["a"], [("when", SHORT_TEST, [], long)], [("when", SHORT_TEST, [], short)])
        self.same(["a"], [("while", SHORT_TEST, long)], [("while", SHORT_TEST, short)])
        self.same(["a"], [("with", "x", A, long)], [("with", "x", A, short)])

    def test_every_order_of_a_block_in_its_place(self):
        block = [("say", LONG), ("set", "a", LONG), ("say", num(4)), ("while", LONG_TEST, [("say", LONG)])]
        wanted = [("say", A), ("set", "a", A), ("say", num(4)), ("while", SHORT_TEST, [("say", A)])]
        self.same(["a", "c"], block, wanted)

    def test_nothing_else_is_changed(self):
        self.stays(["a", "b"], [("set", "a", A)])
        self.stays(["a"], [("when", always(), [("say", num(1))], [("say", num(2))])])
        self.stays(["a"], [("when", never(), [("say", num(1))], [("say", num(1))])])
        self.stays(["a"], [("when", ("not", SHORT_TEST), [], [("say", num(1))])])
        self.stays(["a"], [("while", never(), [("say", num(1))])])
        self.stays(["a"], [("with", "x", num(1), []), ("with", "a", num(1), [("say", A)])])
        self.stays(["a"], [("set", "a", num(1)), ("set", "a", num(2)), ("say", A)])

    def test_strangers_are_not_refused(self):
        self.same([], [("set", "p", ("add", name("q"), num(0)))], [("set", "p", name("q"))])
        self.same([], [("say", ("mul", name("p"), num(0)))], [("say", num(0))])

    def test_blocks_are_lists_of_tuples(self):
        block = [("when", always(), [("say", A)], []), ("while", never(), []), ("with", "x", A, [])]
        got = shorter((["a"], block))
        self.assertEqual([type(part) for part in got], [list, list])
        self.assertEqual([type(order) for order in got[1]], [tuple, tuple, tuple])
        inner = [got[1][0][2], got[1][0][3], got[1][1][2], got[1][2][3]]
        self.assertEqual([type(part) for part in inner], [list] * 4)

    def test_what_is_handed_in_is_not_given_back(self):
        program = (["a"], [("while", SHORT_TEST, [("say", A)])])
        before = copied(program)
        got = shorter(program)
        got[0].append("b")
        got[1][0][2].append(("say", num(1)))
        got[1].append(("say", num(1)))
        self.assertEqual(program, before)

    def test_deep(self):
        for depth in (148, 200):
            self.same(["a"], [("say", deep_sum("add", A, num(0), depth))], [("say", A)])
            self.same(["a"], [("while", deep_not(SHORT_TEST, depth), [])], [("while", SHORT_TEST, [])])
            self.same(["a"], deep_orders(("say", LONG), depth), deep_orders(("say", A), depth))

    def test_it_comes_to_the_same(self):
        maker = Maker(8)
        for turn in range(300):
            program = maker.program()
            starts = maker.starts(program)
            short = shorter(program)
            self.assertEqual(strangers(short), [])
            self.assertEqual(shorter(short), short)
            for oil in (0, 1, 5, 12):
                self.assertEqual(followed(short, starts, oil), followed(program, starts, oil), program)


if __name__ == "__main__":
    unittest.main()
