import unittest

from jarcards.sums import holds, shorter_sum, shorter_test, worth
from made import Maker, always, deep_both, deep_not, deep_sum, name, never, num

A = name("a")
B = name("b")
LONG = ("add", A, B)


class ShorterSum(unittest.TestCase):
    def same(self, part, wanted):
        self.assertEqual(shorter_sum(part), wanted)

    def stays(self, part):
        self.same(part, part)

    def test_leaves_stay(self):
        for part in (num(0), num(1), num(-7), num(10 ** 32 - 1), A):
            self.stays(part)

    def test_two_nums_become_their_worth(self):
        self.same(("add", num(7), num(3)), num(10))
        self.same(("sub", num(3), num(7)), num(-4))
        self.same(("mul", num(7), num(-3)), num(-21))
        self.same(("sub", num(0), num(7)), num(-7))
        self.same(("sub", num(7), num(0)), num(7))
        self.same(("mul", num(0), num(0)), num(0))
        self.same(("add", num(0), num(0)), num(0))
        self.same(("mul", num(1), num(9)), num(9))

    def test_numbers_may_grow_longer(self):
        big = 10 ** 32 - 1
        self.same(("mul", num(big), num(big)), num(big * big))
        self.same(("add", num(big), num(1)), num(10 ** 32))

    def test_add_of_nought(self):
        for other in (A, LONG):
            self.same(("add", num(0), other), other)
            self.same(("add", other, num(0)), other)

    def test_add_else_stays(self):
        for number in (1, -1, 10):
            self.stays(("add", num(number), A))
            self.stays(("add", A, num(number)))
        self.stays(("add", A, A))
        self.stays(("add", A, B))
        self.stays(("add", B, A))

    def test_sub_of_nought(self):
        for other in (A, LONG):
            self.same(("sub", other, num(0)), other)

    def test_sub_else_stays(self):
        self.stays(("sub", num(0), A))
        self.stays(("sub", num(0), LONG))
        self.stays(("sub", A, num(1)))
        self.stays(("sub", num(1), A))
        self.stays(("sub", A, num(-2)))
        self.stays(("sub", A, A))
        self.stays(("sub", A, B))

    def test_mul_of_nought(self):
        for other in (A, LONG, ("mul", A, num(5))):
            self.same(("mul", num(0), other), num(0))
            self.same(("mul", other, num(0)), num(0))

    def test_mul_of_one(self):
        for other in (A, LONG):
            self.same(("mul", num(1), other), other)
            self.same(("mul", other, num(1)), other)

    def test_mul_else_stays(self):
        for number in (-1, 2, 10):
            self.stays(("mul", num(number), A))
            self.stays(("mul", A, num(number)))
        self.stays(("mul", A, A))
        self.stays(("mul", A, B))

    def test_from_the_inside_out(self):
        self.same(("add", A, ("sub", num(3), num(3))), A)
        self.same(("add", ("mul", B, num(0)), A), A)
        self.same(("sub", A, ("mul", num(0), B)), A)
        self.same(("sub", ("mul", num(0), B), A), ("sub", num(0), A))
        self.same(("mul", ("sub", num(2), num(1)), A), A)
        self.same(("mul", A, ("add", num(0), ("add", num(1), num(0)))), A)
        self.same(("mul", ("add", num(5), num(-5)), A), num(0))
        self.same(("add", ("mul", A, num(0)), ("add", num(2), num(3))), num(5))
        self.same(("mul", ("add", ("mul", B, num(0)), num(4)), ("sub", num(9), num(2))), num(28))

    def test_inside_what_stays(self):
        self.same(("add", ("add", A, num(0)), ("mul", num(1), B)), ("add", A, B))
        self.same(("sub", ("sub", A, num(0)), ("add", num(2), num(3))), ("sub", A, num(5)))
        self.same(("mul", ("add", num(1), num(1)), ("sub", B, num(0))), ("mul", num(2), B))

    def test_nothing_is_drawn_together_across_sums(self):
        self.stays(("add", ("add", A, num(1)), num(2)))
        self.stays(("add", num(1), ("add", num(2), A)))
        self.stays(("sub", ("add", A, num(1)), num(1)))
        self.stays(("mul", num(2), ("mul", num(3), A)))
        self.stays(("mul", num(-1), ("mul", num(-1), A)))
        self.stays(("sub", num(0), ("sub", num(0), A)))

    def test_deep(self):
        for depth in (150, 200):
            self.same(deep_sum("add", num(5), num(2), depth), num(5 + 2 * (depth - 1)))
            self.same(deep_sum("add", A, num(0), depth), A)
            self.same(deep_sum("mul", A, num(1), depth), A)
            self.same(deep_sum("mul", num(0), A, depth), num(0))
            self.stays(deep_sum("add", A, num(2), depth))

    def test_the_worth_stays(self):
        maker = Maker(3)
        names, values = ["a", "b", "a"], [10 ** 30, -7, 4]
        for turn in range(400):
            part = maker.sum(names, 5)
            short = shorter_sum(part)
            self.assertEqual(worth(short, names, values), worth(part, names, values), part)
            self.assertEqual(shorter_sum(short), short)


class ShorterTest(unittest.TestCase):
    def same(self, test, wanted):
        self.assertEqual(shorter_test(test), wanted)

    def stays(self, test):
        self.same(test, test)

    def test_sums_in_their_places(self):
        for word in ("less", "same"):
            self.same((word, ("add", A, num(0)), B), (word, A, B))
            self.same((word, A, ("add", num(0), B)), (word, A, B))
            self.same((word, ("add", num(1), num(2)), ("mul", A, num(0))), (word, num(3), num(0)))

    def test_less_and_same_are_not_decided(self):
        self.stays(always())
        self.stays(never())
        self.stays(("less", num(1), num(2)))
        self.stays(("same", A, A))
        self.stays(("less", A, A))

    def test_both_stays(self):
        self.stays(("both", always(), never()))
        self.stays(("both", never(), ("less", A, B)))
        self.stays(("both", ("less", A, B), ("less", A, B)))
        self.stays(("both", ("not", ("less", A, B)), ("not", ("same", A, B))))

    def test_both_within(self):
        long = ("less", ("add", A, num(0)), ("mul", B, num(1)))
        self.same(("both", long, never()), ("both", ("less", A, B), never()))
        self.same(("both", never(), long), ("both", never(), ("less", A, B)))
        self.same(("both", ("not", ("not", long)), ("not", long)), ("both", ("less", A, B), ("not", ("less", A, B))))

    def test_one_not_stays(self):
        self.stays(("not", ("less", A, B)))
        self.stays(("not", always()))
        self.stays(("not", ("both", ("not", always()), ("not", never()))))

    def test_within_a_not(self):
        self.same(("not", ("same", ("sub", A, num(0)), B)), ("not", ("same", A, B)))
        twice = ("not", ("not", always()))
        self.same(("not", ("both", twice, twice)), ("not", ("both", always(), always())))

    def test_not_of_not(self):
        inner = ("less", A, B)
        self.same(("not", ("not", inner)), inner)
        self.same(("not", ("not", ("less", ("add", A, num(0)), B))), inner)
        self.same(("not", ("not", ("both", inner, always()))), ("both", inner, always()))

    def test_not_of_not_that_comes_about_within(self):
        inner = ("less", A, B)
        for count in range(9):
            wanted = ("not", inner) if count % 2 else inner
            self.same(deep_not(inner, count), wanted)

    def test_deep(self):
        for count in (148, 149, 200):
            self.same(deep_not(always(), count), ("not", always()) if count % 2 else always())
            self.stays(deep_both(never(), always(), count))

    def test_it_holds_where_it_held(self):
        maker = Maker(4)
        names, values = ["a", "b", "a"], [10 ** 30, -7, 4]
        for turn in range(400):
            test = maker.test(names, 5)
            short = shorter_test(test)
            self.assertIs(holds(short, names, values), holds(test, names, values), test)
            self.assertEqual(shorter_test(short), short)


if __name__ == "__main__":
    unittest.main()
