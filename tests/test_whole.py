"""What holds over the whole program: following and the run of the cards, made shorter or not, written or not."""

import unittest

from jarcards.cards import cards_of
from jarcards.machine import diary, ran
from jarcards.orders import followed, shorter
from jarcards.text import read, shown
from made import (
    BIG, Maker, TameMaker, always, copied, deep_both, deep_not, deep_orders, deep_sum, examples, name, never, num,
)


class Case(unittest.TestCase):
    def both_ways(self, program, starts, oil):
        """Follows the program and runs its cards, and answers what following it tells."""
        followed_to = followed(program, starts, oil)
        word, said, values, used = followed_to
        cards = cards_of(program)
        ran_to = ran(cards, starts, oil)
        self.assertEqual((ran_to[0], ran_to[1], ran_to[3]), (word, said, used))
        if word == "done":
            self.assertEqual(ran_to[2], values)
        else:
            self.assertEqual(ran_to[2][:len(values)], values)
            self.assertEqual(used, oil)
        last = diary(cards, starts, oil)[-1]
        self.assertEqual(last[1:], (ran_to[2], oil - used))
        return followed_to

    def compared(self, program, starts, oil):
        got = self.both_ways(program, starts, oil)
        self.assertEqual(self.both_ways(shorter(program), starts, oil), got)
        return got

    def every_oil(self, program, starts, most):
        handed = (program, starts)
        before = copied(handed)
        used = self.compared(program, starts, most)[3]
        for oil in range(used + 2):
            self.compared(program, starts, oil)
        self.assertLessEqual(len(cards_of(shorter(program))), len(cards_of(program)))
        self.assertEqual(handed, before)


class SideBySide(Case):
    def test_examples(self):
        for program, starts in examples():
            with self.subTest(program=program):
                self.every_oil(program, starts, 100)

    def test_told_numbers(self):
        program = (["n"], [
            ("while", ("less", num(0), name("n")), [
                ("say", ("mul", name("n"), name("n"))),
                ("set", "n", ("sub", name("n"), num(1))),
            ]),
        ])
        self.assertEqual(self.compared(program, [3], 100), ("done", [9, 4, 1], [0], 10))
        self.assertEqual(self.compared(program, [3], 10), ("done", [9, 4, 1], [0], 10))
        self.assertEqual(self.compared(program, [3], 9), ("dry", [9, 4, 1], [0], 9))
        self.assertEqual(self.compared(program, [3], 2), ("dry", [9], [3], 2))
        self.assertEqual(self.compared(program, [0], 1), ("done", [], [0], 1))
        self.assertEqual(self.compared(program, [0], 0), ("dry", [], [0], 0))

    def test_made_programs(self):
        maker = Maker(51)
        for turn in range(200):
            program = maker.program()
            self.every_oil(program, maker.starts(program), 12)

    def test_made_programs_with_long_runs(self):
        maker = TameMaker(52)
        words = {"done": 0, "dry": 0}
        for turn in range(150):
            program = maker.program()
            starts = maker.starts(program)
            words[followed(program, starts, 60)[0]] += 1
            self.every_oil(program, starts, 60)
        self.assertGreater(words["done"], 10)
        self.assertGreater(words["dry"], 10)

    def test_five_hundred_drops(self):
        bump = ("set", "a", ("add", name("a"), num(1)))
        program = (["a"], [("while", always(), [("with", "a", name("a"), [bump]), bump])])
        self.assertEqual(self.compared(program, [0], 500), ("dry", [], [125], 500))

    def test_a_dry_run_leaves_the_jars_of_withs_on_the_pile(self):
        program = (["a"], [("with", "x", num(5), [("with", "y", num(6), [("say", name("y"))])])])
        self.assertEqual(ran(cards_of(program), [1], 2), ("dry", [], [1, 5, 6], 2))
        self.assertEqual(followed(program, [1], 2), ("dry", [], [1], 2))
        self.assertEqual(ran(cards_of(program), [1], 3), ("done", [6], [1], 3))

    def test_far_longer_numbers(self):
        squared = ("set", "a", ("mul", name("a"), name("a")))
        program = (["a"], [squared] * 8 + [("say", name("a"))])
        got = followed(program, [BIG], 9)
        self.assertTrue(got == ("done", [BIG ** 256], [BIG ** 256], 9))
        self.assertTrue(ran(cards_of(program), [BIG], 9) == got)

    def test_deep(self):
        bump = ("set", "a", ("add", name("a"), num(1)))
        programs = [(["a"], deep_orders(bump, count)) for count in (100, 150)]
        for depth in (148, 200):
            programs.append((["a"], [("say", deep_sum("sub", name("a"), num(3), depth))]))
            programs.append((["a"], [("when", deep_not(never(), depth), [bump], [("say", num(1))])]))
            programs.append((["a"], [("when", deep_both(never(), always(), depth), [bump], [("say", num(1))])]))
        for program in programs:
            self.assertEqual(self.compared(program, [4], 500)[0], "done")
            self.compared(program, [4], 1)
            self.assertLessEqual(len(cards_of(shorter(program))), len(cards_of(program)))


class MadeShorter(Case):
    def test_fewer_cards(self):
        for part, wanted in (
            (("add", num(2), num(3)), [("push", 5)]),
            (("add", name("a"), num(0)), [("load", 0)]),
            (("mul", name("a"), num(0)), [("push", 0)]),
            (("mul", num(1), ("sub", name("a"), num(0))), [("load", 0)]),
            (("sub", num(0), name("a")), [("push", 0), ("load", 0), ("sub",)]),
        ):
            cards = cards_of(shorter((["a"], [("say", part)])))
            self.assertEqual(cards, [("burn",)] + wanted + [("say",)])

    def test_a_not_of_a_not(self):
        program = ([], [("while", ("not", ("not", ("not", always()))), [])])
        self.assertEqual(len(cards_of(program)) - len(cards_of(shorter(program))), 2)
        self.every_oil(program, [], 9)

    def test_never_more_cards(self):
        maker = Maker(53)
        fewer = 0
        for turn in range(400):
            program = maker.program()
            long, short = len(cards_of(program)), len(cards_of(shorter(program)))
            self.assertLessEqual(short, long)
            fewer += short < long
        self.assertGreater(fewer, 100)

    def test_longer_numbers(self):
        part = num(BIG)
        for turn in range(140):
            part = ("mul", part, num(-BIG))
        program = ([], [("say", part)])
        short = shorter(program)
        self.assertEqual(len(cards_of(short)), 3)
        wanted = ("done", [BIG ** 141], [], 1)
        for told in (followed(program, [], 1), followed(short, [], 1), ran(cards_of(program), [], 1)):
            self.assertTrue(told == wanted)
        self.assertTrue(ran(cards_of(short), [], 1) == wanted)
        self.assertTrue(diary(cards_of(short), [], 1)[2] == (2, [BIG ** 141], 0))
        self.assertTrue(read(shown(short)) == short)


class WrittenThenRun(Case):
    def test_a_program_from_its_rows(self):
        rows = [
            "jars n m",
            "while less 0 n",
            "  with n mul n n",
            "    set m add m n",
            "    say n",
            "  end",
            "  set n sub n 1",
            "end",
        ]
        program = read(rows)
        self.assertEqual(shown(program), rows)
        self.assertEqual(self.compared(program, [3, 0], 500), ("done", [9, 4, 1], [0, 14], 1 + 3 * 5))
        self.every_oil(program, [3, 0], 500)

    def test_made_programs(self):
        maker = Maker(54)
        for turn in range(100):
            program = maker.program()
            starts = maker.starts(program)
            again = read(shown(program))
            self.assertEqual(cards_of(again), cards_of(program))
            self.assertEqual(followed(again, starts, 10), followed(program, starts, 10))


if __name__ == "__main__":
    unittest.main()
