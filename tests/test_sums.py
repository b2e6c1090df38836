import unittest

from jarcards.errors import JarError, NoName
from jarcards.sums import holds, place_of, worth
from made import always, copied, deep_both, deep_not, deep_sum, name, never, num

BIG = 10 ** 32 - 1


class PlaceOf(unittest.TestCase):
    def test_counts_from_nought(self):
        self.assertEqual(place_of(["a", "b", "c"], "a"), 0)
        self.assertEqual(place_of(["a", "b", "c"], "b"), 1)
        self.assertEqual(place_of(["a", "b", "c"], "c"), 2)

    def test_of_two_the_last_is_meant(self):
        self.assertEqual(place_of(["a", "b", "a", "c"], "a"), 2)
        self.assertEqual(place_of(["a", "a"], "a"), 1)
        self.assertEqual(place_of(["x", "a", "x", "x", "b"], "x"), 3)

    def test_only_the_whole_name_counts(self):
        self.assertEqual(place_of(["ab", "a", "abc"], "a"), 1)
        self.assertEqual(place_of(["ab", "a", "abc"], "ab"), 0)
        self.assertEqual(place_of(["ab", "a", "abc"], "abc"), 2)

    def test_refuses_what_no_jar_is_called(self):
        rows = [
            ([], "a"),
            (["b"], "a"),
            (["ab", "abc", "ba"], "a"),
            (["a", "b"], "ab"),
            (["a", "ab"], "abc"),
            (["a", "b"], "c"),
        ]
        for names, wanted in rows:
            with self.subTest(names=names, wanted=wanted):
                with self.assertRaises(NoName):
                    place_of(names, wanted)
                with self.assertRaises(JarError):
                    place_of(names, wanted)

    def test_the_row_stays(self):
        names = ["b", "a", "b"]
        place_of(names, "b")
        with self.assertRaises(NoName):
            place_of(names, "c")
        self.assertEqual(names, ["b", "a", "b"])


class Worth(unittest.TestCase):
    def same(self, part, wanted, names=(), values=()):
        got = worth(part, list(names), list(values))
        self.assertEqual(got, wanted)
        self.assertIs(type(got), int)

    def test_num(self):
        for number in (0, 1, -1, BIG, -BIG):
            self.same(num(number), number)

    def test_name(self):
        self.same(name("a"), 4, ["a", "b"], [4, -5])
        self.same(name("b"), -5, ["a", "b"], [4, -5])

    def test_of_two_jars_the_last(self):
        self.same(name("a"), 9, ["a", "b", "a"], [4, 5, 9])
        self.same(("sub", name("a"), name("b")), 4, ["a", "b", "a"], [4, 5, 9])

    def test_add_sub_mul(self):
        self.same(("add", num(7), num(3)), 10)
        self.same(("sub", num(7), num(3)), 4)
        self.same(("sub", num(3), num(7)), -4)
        self.same(("mul", num(7), num(3)), 21)

    def test_negative(self):
        self.same(("add", num(-7), num(3)), -4)
        self.same(("sub", num(-7), num(-3)), -4)
        self.same(("mul", num(-7), num(3)), -21)
        self.same(("mul", num(-7), num(-3)), 21)

    def test_very_large(self):
        self.same(("add", num(BIG), num(1)), 10 ** 32)
        self.same(("sub", num(-BIG), num(BIG)), -2 * BIG)
        self.same(("mul", num(BIG), num(-BIG)), -BIG * BIG)
        self.same(("add", name("a"), num(1)), 10 ** 400 + 1, ["a"], [10 ** 400])
        self.same(("sub", num(2 ** 63), num(-1)), 2 ** 63 + 1)

    def test_one_within_the_other(self):
        part = ("sub", ("mul", name("a"), ("add", name("b"), num(1))), ("sub", num(2), name("a")))
        self.same(part, 3 * 6 - (2 - 3), ["a", "b"], [3, 5])

    def test_deep(self):
        for depth in (150, 200):
            self.same(deep_sum("add", num(5), name("a"), depth), 5 + 2 * (depth - 1), ["a"], [2])
            self.same(deep_sum("mul", name("a"), num(-2), depth), 3 * (-2) ** (depth - 1), ["a"], [3])

    def test_what_is_handed_in_stays(self):
        names, values = ["a", "b", "a"], [1, 2, 3]
        worth(("add", name("a"), ("mul", name("b"), name("a"))), names, values)
        self.assertEqual((names, values), (["a", "b", "a"], [1, 2, 3]))


class Holds(unittest.TestCase):
    def same(self, test, wanted, names=(), values=()):
        self.assertIs(holds(test, list(names), list(values)), wanted)

    def test_less(self):
        self.same(("less", num(1), num(2)), True)
        self.same(("less", num(2), num(2)), False)
        self.same(("less", num(3), num(2)), False)
        self.same(("less", num(-3), num(-2)), True)
        self.same(("less", num(-2), num(-3)), False)

    def test_same(self):
        self.same(("same", num(2), num(2)), True)
        self.same(("same", num(2), num(3)), False)
        self.same(("same", num(3), num(2)), False)
        self.same(("same", num(2), num(-2)), False)

    def test_very_large(self):
        self.same(("less", num(BIG - 1), num(BIG)), True)
        self.same(("less", num(-BIG), num(1 - BIG)), True)
        self.same(("less", num(BIG), num(BIG - 1)), False)
        self.same(("same", num(BIG), num(BIG - 1)), False)
        self.same(("same", name("a"), ("mul", num(10 ** 30), num(10 ** 30))), True, ["a"], [10 ** 60])
        self.same(("same", name("a"), ("mul", num(10 ** 30), num(10 ** 30))), False, ["a"], [10 ** 60 + 1])

    def test_not(self):
        self.same(("not", always()), False)
        self.same(("not", never()), True)
        self.same(("not", ("not", always())), True)
        self.same(("not", ("not", never())), False)

    def test_both(self):
        self.same(("both", always(), always()), True)
        self.same(("both", always(), never()), False)
        self.same(("both", never(), always()), False)
        self.same(("both", never(), never()), False)

    def test_one_within_the_other(self):
        test = ("both", ("not", ("less", name("a"), name("b"))), ("not", ("both", always(), ("same", name("a"), num(5)))))
        self.same(test, True, ["a", "b"], [4, 3])
        self.same(test, False, ["a", "b"], [5, 3])
        self.same(test, False, ["a", "b"], [2, 3])

    def test_of_two_jars_the_last(self):
        self.same(("same", name("a"), num(9)), True, ["a", "b", "a"], [4, 5, 9])
        self.same(("less", name("a"), name("b")), False, ["a", "b", "a"], [4, 5, 9])

    def test_deep(self):
        for count in (148, 149, 200):
            self.same(deep_not(always(), count), count % 2 == 0)
            self.same(deep_both(always(), always(), count), True)
            self.same(deep_both(never(), always(), count), False)

    def test_what_is_handed_in_stays(self):
        names, values = ["a", "b", "a"], [1, 2, 3]
        holds(("both", ("less", name("b"), name("a")), ("not", never())), names, values)
        self.assertEqual((names, values), (["a", "b", "a"], [1, 2, 3]))

    def test_lists_are_only_read_again_and_again(self):
        names, values = ["a"], [1]
        before = copied((names, values))
        for turn in range(3):
            self.assertIs(holds(("same", name("a"), num(1)), names, values), True)
        self.assertEqual((names, values), before)


if __name__ == "__main__":
    unittest.main()
