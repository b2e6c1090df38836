import unittest

from jarcards.orders import shorter
from jarcards.text import shown
from made import BIG, Maker, always, copied, deep_both, deep_not, deep_orders, deep_sum, name, never, num


class Case(unittest.TestCase):
    def written(self, names, block, wanted):
        program = (names, block)
        before = copied(program)
        got = shown(program)
        self.assertEqual(got, wanted)
        self.assertIsInstance(got, list)
        self.assertEqual(program, before)

    def said(self, part, wanted):
        self.written([], [("say", part)], ["jars", "say " + wanted])

    def looked_at(self, test, wanted):
        self.written([], [("while", test, [])], ["jars", "while " + wanted, "end"])


class FirstRow(Case):
    def test_names(self):
        self.written([], [], ["jars"])
        self.written(["a"], [], ["jars a"])
        self.written(["b", "a", "xyz"], [], ["jars b a xyz"])


class Parts(Case):
    def test_numbers(self):
        for number, wanted in (
            (0, "0"), (1, "1"), (-1, "-1"), (10, "10"), (-10, "-10"), (907, "907"), (-4000, "-4000"),
            (BIG, "9" * 32), (-BIG, "-" + "9" * 32), (10 ** 31, "1" + "0" * 31), (-10 ** 31, "-1" + "0" * 31),
        ):
            self.said(num(number), wanted)

    def test_long_numbers(self):
        for figures in (63, 64, 65, 127, 128, 129, 500, 4299, 4300, 4301, 9000):
            text = "9" * figures
            self.said(num(10 ** figures - 1), text)
            self.said(num(1 - 10 ** figures), "-" + text)
            self.said(num(10 ** figures), "1" + "0" * figures)
            self.said(num(10 ** figures + 7), "1" + "0" * (figures - 1) + "7")

    def test_names(self):
        self.said(name("a"), "a")
        self.said(name("jar"), "jar")

    def test_pairs(self):
        for word in ("add", "sub", "mul"):
            self.said((word, name("a"), num(-2)), word + " a -2")
        self.said(("sub", ("add", num(1), name("b")), ("mul", num(2), num(3))), "sub add 1 b mul 2 3")
        self.said(("add", num(1), ("add", num(2), ("add", num(3), num(4)))), "add 1 add 2 add 3 4")

    def test_tests(self):
        self.looked_at(("less", name("a"), num(1)), "less a 1")
        self.looked_at(("same", num(1), name("a")), "same 1 a")
        self.looked_at(("not", always()), "not same 0 0")
        self.looked_at(("not", ("not", never())), "not not less 0 0")
        self.looked_at(("both", always(), never()), "both same 0 0 less 0 0")
        self.looked_at(
            ("both", ("both", always(), ("not", never())), ("less", ("add", name("a"), num(1)), num(-2))),
            "both both same 0 0 not less 0 0 less add a 1 -2",
        )


class Orders(Case):
    def test_set(self):
        self.written(["a"], [("set", "a", num(1))], ["jars a", "set a 1"])
        self.written(["a"], [("set", "a", ("mul", name("a"), name("a")))], ["jars a", "set a mul a a"])

    def test_say(self):
        self.written([], [("say", num(1)), ("say", num(2))], ["jars", "say 1", "say 2"])

    def test_when(self):
        block = [("when", always(), [("say", num(1)), ("say", num(2))], [("say", num(3))]), ("say", num(4))]
        self.written([], block, [
            "jars",
            "when same 0 0",
            "  say 1",
            "  say 2",
            "else",
            "  say 3",
            "end",
            "say 4",
        ])

    def test_while(self):
        block = [("while", ("less", name("a"), num(9)), [("set", "a", ("add", name("a"), num(1)))]), ("say", num(4))]
        self.written(["a"], block, ["jars a", "while less a 9", "  set a add a 1", "end", "say 4"])

    def test_with(self):
        block = [("with", "x", ("sub", num(1), num(2)), [("say", name("x"))]), ("say", num(4))]
        self.written([], block, ["jars", "with x sub 1 2", "  say x", "end", "say 4"])

    def test_empty_blocks(self):
        self.written([], [("when", always(), [], [])], ["jars", "when same 0 0", "else", "end"])
        self.written([], [("when", always(), [("say", num(1))], [])], ["jars", "when same 0 0", "  say 1", "else", "end"])
        self.written([], [("when", always(), [], [("say", num(1))])], ["jars", "when same 0 0", "else", "  say 1", "end"])
        self.written([], [("while", never(), [])], ["jars", "while less 0 0", "end"])
        self.written([], [("with", "x", num(0), [])], ["jars", "with x 0", "end"])

    def test_blocks_within_blocks(self):
        innermost = [("set", "a", name("x"))]
        loop = ("while", never(), [("with", "x", num(-1), innermost), ("say", num(1))])
        block = [("when", always(), [loop], [("when", never(), [], [loop])])]
        self.written(["a"], block, [
            "jars a",
            "when same 0 0",
            "  while less 0 0",
            "    with x -1",
            "      set a x",
            "    end",
            "    say 1",
            "  end",
            "else",
            "  when less 0 0",
            "  else",
            "    while less 0 0",
            "      with x -1",
            "        set a x",
            "      end",
            "      say 1",
            "    end",
            "  end",
            "end",
        ])

    def test_strangers_are_written_too(self):
        self.written([], [("set", "p", name("q"))], ["jars", "set p q"])


class Whole(Case):
    def test_blanks(self):
        maker = Maker(31)
        for turn in range(200):
            for row in shown(maker.program()):
                self.assertRegex(row, r"\A( {2})*[^ ]+( [^ ]+)*\Z")

    def test_what_is_made_shorter(self):
        part = num(BIG)
        for turn in range(148):
            part = ("mul", part, num(BIG))
        rows = shown(shorter((["a"], [("say", part)])))
        self.assertEqual(rows[0], "jars a")
        figures = rows[1].split(" ")[1]
        self.assertEqual(len(figures), 32 * 149)
        number = 0
        for figure in figures:
            number = number * 10 + int(figure)
        self.assertTrue(number == BIG ** 149)

    def test_deep(self):
        for depth in (149, 200):
            rows = shown((["a"], [("say", deep_sum("add", name("a"), num(1), depth))]))
            self.assertEqual(len(rows[1].split(" ")), 2 * depth)
            rows = shown(([], [("while", deep_not(always(), depth), [])]))
            self.assertEqual(rows[1], "while " + "not " * depth + "same 0 0")
            rows = shown(([], [("while", deep_both(always(), never(), depth), [])]))
            self.assertEqual(len(rows[1].split(" ")), 4 + 4 * depth)
            block = [("say", num(1))]
            for turn in range(depth):
                block = [("with", "x", num(turn), block)]
            rows = shown(([], block))
            self.assertEqual(rows[depth + 1], "  " * depth + "say 1")
            self.assertEqual(rows[-1], "end")
        self.assertEqual(shown((["a"], deep_orders(("say", num(1)), 150)))[-1], "end")

    def test_each_time_anew(self):
        program = (["a"], [("say", name("a"))])
        shown(program).append("end")
        self.assertEqual(shown(program), ["jars a", "say a"])


if __name__ == "__main__":
    unittest.main()
