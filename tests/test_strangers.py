import unittest

from jarcards.orders import strangers
from made import Maker, always, copied, deep_not, deep_orders, deep_sum, name, num


class Strangers(unittest.TestCase):
    def same(self, names, block, wanted):
        program = (names, block)
        before = copied(program)
        self.assertEqual(strangers(program), wanted)
        self.assertEqual(program, before)

    def test_none(self):
        self.same([], [], [])
        self.same(["a"], [], [])
        self.same(["a"], [("say", name("a")), ("set", "a", num(1))], [])
        self.same([], [("say", num(1))], [])

    def test_in_each_order(self):
        test = ("less", name("p"), name("q"))
        self.same([], [("say", name("p"))], ["p"])
        self.same([], [("set", "p", num(1))], ["p"])
        self.same([], [("when", test, [], [])], ["p", "q"])
        self.same([], [("while", test, [])], ["p", "q"])
        self.same([], [("with", "x", name("p"), [])], ["p"])

    def test_in_each_sum_and_test(self):
        for word in ("add", "sub", "mul"):
            self.same(["a"], [("say", (word, name("p"), name("q")))], ["p", "q"])
            self.same(["a"], [("say", (word, name("a"), name("q")))], ["q"])
        for word in ("less", "same"):
            self.same(["a"], [("while", (word, name("p"), name("q")), [])], ["p", "q"])
            self.same(["a"], [("while", ("not", (word, name("p"), name("a"))), [])], ["p"])
        both = ("both", ("less", name("p"), name("q")), ("same", name("r"), name("s")))
        self.same([], [("when", both, [], [])], ["p", "q", "r", "s"])

    def test_the_name_of_a_set_stands_ahead_of_its_sum(self):
        self.same([], [("set", "p", ("add", name("q"), name("p")))], ["p", "q", "p"])
        self.same(["p"], [("set", "p", name("q"))], ["q"])
        self.same(["q"], [("set", "p", name("q"))], ["p"])

    def test_as_written_and_as_often(self):
        block = [
            ("say", name("z")),
            ("when", ("same", name("y"), name("z")),
             [("say", name("b")), ("set", "c", name("z"))],
             [("say", name("d"))]),
            ("while", ("less", name("e"), num(1)), [("say", name("f")), ("say", name("f"))]),
            ("say", ("add", name("a"), ("mul", name("z"), name("h")))),
        ]
        self.same(["a"], block, ["z", "y", "z", "b", "c", "z", "d", "e", "f", "f", "z", "h"])

    def test_a_with_has_its_jar_within(self):
        self.same([], [("with", "x", num(1), [("say", name("x")), ("set", "x", name("x"))])], [])
        self.same([], [("with", "x", num(1), [("say", name("y"))])], ["y"])

    def test_the_name_of_a_with_is_not_used_there(self):
        self.same([], [("with", "x", num(1), [])], [])

    def test_the_sum_of_a_with_lies_outside(self):
        self.same([], [("with", "x", name("x"), [])], ["x"])
        self.same([], [("with", "x", ("add", name("x"), name("y")), [("say", name("x"))])], ["x", "y"])
        self.same(["x"], [("with", "x", name("x"), [])], [])

    def test_the_sum_of_a_with_stands_ahead_of_its_block(self):
        self.same([], [("with", "x", name("p"), [("say", name("q"))]), ("say", name("r"))], ["p", "q", "r"])

    def test_behind_a_with_its_jar_is_gone(self):
        self.same([], [("with", "x", num(1), [("say", name("x"))]), ("say", name("x"))], ["x"])
        self.same([], [("with", "x", num(1), []), ("set", "x", num(1))], ["x"])
        branch = [("with", "x", num(1), [])]
        self.same([], [("when", always(), branch, [("say", name("x"))])], ["x"])

    def test_a_jar_that_hides_another(self):
        inner = ("with", "x", name("x"), [("say", name("x"))])
        self.same(["x"], [inner, ("say", name("x"))], [])
        self.same([], [("with", "x", num(0), [inner, ("say", name("x"))])], [])
        self.same([], [("with", "x", num(0), [inner]), ("say", name("x"))], ["x"])

    def test_a_with_in_each_block(self):
        use = [("say", ("add", name("x"), name("y")))]
        for order in (("when", always(), use, []), ("when", always(), [], use), ("while", always(), use),
                      ("with", "z", name("x"), use)):
            self.same([], [("with", "x", num(0), [order])], ["y"])

    def test_names_that_begin_alike(self):
        self.same(["ab", "b"], [("say", ("add", name("a"), name("abc"))), ("say", name("ab"))], ["a", "abc"])

    def test_where_it_would_not_be_come_to(self):
        self.same([], [("when", always(), [], [("say", name("p"))])], ["p"])
        self.same([], [("while", ("not", always()), [("set", "p", num(0))])], ["p"])
        self.same([], [("say", ("mul", num(0), name("p")))], ["p"])

    def test_deep(self):
        for depth in (148, 200):
            self.same(["a"], [("say", deep_sum("add", name("p"), name("a"), depth))], ["p"])
            self.same([], [("while", deep_not(("same", num(0), name("p")), depth), [])], ["p"])
            self.same([], deep_orders(("say", ("add", name("w"), name("p"))), depth // 2), ["p"])

    def test_deep_orders_of_one_kind(self):
        block = [("say", ("add", name("x"), name("p")))]
        for turn in range(150):
            block = [("with", "x", num(0), block)]
        self.same([], block, ["p"])

    def test_made_programs_have_none(self):
        maker = Maker(5)
        for turn in range(200):
            program = maker.program()
            self.assertEqual(strangers(program), [])


if __name__ == "__main__":
    unittest.main()
