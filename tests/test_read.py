import itertools
import random
import unittest

from jarcards.errors import JarError, NoProgram
from jarcards.orders import shorter
from jarcards.text import read, shown
from made import (
    BIG, KEPT, Maker, always, copied, deep_both, deep_not, deep_orders, deep_sum, examples, name, never, num, proper,
    words_of,
)


class Case(unittest.TestCase):
    def gives(self, rows, wanted):
        before = list(rows)
        got = read(rows)
        self.assertEqual(got, wanted)
        self.assertTrue(proper(got))
        self.assertEqual(rows, before)

    def refused(self, *rows):
        rows = list(rows)
        before = list(rows)
        for refusal in (NoProgram, JarError):
            with self.assertRaises(refusal, msg=rows):
                read(rows)
        self.assertEqual(rows, before)


class EachKind(Case):
    def test_names(self):
        self.gives(["jars"], ([], []))
        self.gives(["jars a"], (["a"], []))
        self.gives(["jars b a xyz"], (["b", "a", "xyz"], []))
        self.gives(["jars abcdefghijklmnopqrstuvwxyz"], (["abcdefghijklmnopqrstuvwxyz"], []))

    def test_names_that_hold_kept_words(self):
        self.gives(["jars jar sets ends nots a"], (["jar", "sets", "ends", "nots", "a"], []))
        self.gives(["jars", "say num"], ([], [("say", name("num"))]))
        self.gives(["jars name num drop", "say name"], (["name", "num", "drop"], [("say", name("name"))]))

    def test_numbers(self):
        for text, number in (
            ("0", 0), ("1", 1), ("-1", -1), ("10", 10), ("-10", -10), ("907", 907), ("100", 100), ("-200", -200),
            ("9" * 32, BIG), ("-" + "9" * 32, -BIG), ("1" + "0" * 31, 10 ** 31), ("1234567890", 1234567890),
        ):
            self.gives(["jars", "say " + text], ([], [("say", num(number))]))

    def test_long_numbers(self):
        for figures in (33, 64, 65, 500, 4300, 4301, 9000):
            self.gives(["jars", "say 1" + "0" * figures], ([], [("say", num(10 ** figures))]))
            self.gives(["jars", "say -1" + "0" * figures], ([], [("say", num(-10 ** figures))]))

    def test_sums(self):
        for word in ("add", "sub", "mul"):
            self.gives(["jars", "say " + word + " a -2"], ([], [("say", (word, name("a"), num(-2)))]))
        self.gives(
            ["jars", "say sub add 1 b mul 2 3"],
            ([], [("say", ("sub", ("add", num(1), name("b")), ("mul", num(2), num(3))))]),
        )

    def test_tests(self):
        for text, test in (
            ("less a 1", ("less", name("a"), num(1))),
            ("same add 1 2 a", ("same", ("add", num(1), num(2)), name("a"))),
            ("not same 0 0", ("not", always())),
            ("not not less 0 0", ("not", ("not", never()))),
            ("both same 0 0 less 0 0", ("both", always(), never())),
            ("both not less 0 0 both same 0 0 less 0 0", ("both", ("not", never()), ("both", always(), never()))),
            ("both both same 0 0 less 0 0 not less 0 0", ("both", ("both", always(), never()), ("not", never()))),
        ):
            self.gives(["jars", "while " + text, "end"], ([], [("while", test, [])]))

    def test_orders(self):
        self.gives(["jars a", "set a 1"], (["a"], [("set", "a", num(1))]))
        self.gives(["jars", "say 1", "say 2"], ([], [("say", num(1)), ("say", num(2))]))
        self.gives(
            ["jars", "when same 0 0", "  say 1", "  say 2", "else", "  say 3", "end", "say 4"],
            ([], [("when", always(), [("say", num(1)), ("say", num(2))], [("say", num(3))]), ("say", num(4))]),
        )
        self.gives(
            ["jars", "while less 0 0", "  say 1", "end", "say 4"],
            ([], [("while", never(), [("say", num(1))]), ("say", num(4))]),
        )
        self.gives(
            ["jars", "with x sub 1 2", "  say x", "end", "say 4"],
            ([], [("with", "x", ("sub", num(1), num(2)), [("say", name("x"))]), ("say", num(4))]),
        )

    def test_empty_blocks(self):
        self.gives(["jars", "when same 0 0", "else", "end"], ([], [("when", always(), [], [])]))
        self.gives(["jars", "while less 0 0", "end"], ([], [("while", never(), [])]))
        self.gives(["jars", "with x 0", "end"], ([], [("with", "x", num(0), [])]))

    def test_a_with_may_bear_the_name_of_another_jar(self):
        self.gives(["jars a", "with a 0 with a 1 end end"], (["a"], [("with", "a", num(0), [("with", "a", num(1), [])])]))

    def test_strangers_do_not_matter(self):
        self.gives(["jars", "set p q"], ([], [("set", "p", name("q"))]))
        self.gives(["jars a", "with x x end say x"], (["a"], [("with", "x", name("x"), []), ("say", name("x"))]))


class RowsAndBlanks(Case):
    def test_the_words_of_one_program_on_other_rows(self):
        wanted = (["a", "b"], [("when", always(), [("set", "a", num(-1))], [("say", name("b"))])])
        words = "jars a b when same 0 0 set a -1 else say b end".split()
        self.gives(shown(wanted), wanted)
        self.gives([" ".join(words)], wanted)
        self.gives(words, wanted)
        self.gives(["   ".join(words)], wanted)
        self.gives(["  " + word + "   " for word in words], wanted)
        self.gives([" ", "", "jars", "", "    ", "a b  when", "same 0", "0 set a -1 else", "say b", "end", "", " "], wanted)

    def test_made_programs_on_other_rows(self):
        source = random.Random(41)
        maker = Maker(41)
        for turn in range(150):
            program = maker.program()
            rows = [""]
            for word in words_of(shown(program)):
                for more in range(source.randrange(3)):
                    rows.append("")
                rows[-1] += " " * source.randrange(1, 4) + word + " " * source.randrange(3)
            self.gives(rows, program)

    def test_a_row_end_ends_a_word(self):
        self.gives(["jars", "a", "b"], (["a", "b"], []))
        self.gives(["jars", "say 1", "say 2"], ([], [("say", num(1)), ("say", num(2))]))
        self.refused("ja", "rs")
        self.refused("jars say -", "1")
        self.refused("jars say 1", "2")

    def test_other_blank_signs_are_no_blanks(self):
        self.refused("jars\tsay 1")
        self.refused("jars\nsay 1")
        self.refused("jars say 1\n")


class WrittenAndReadBack(Case):
    def test_examples(self):
        for program, starts in examples():
            self.assertTrue(proper(program))
            self.gives(shown(program), program)
            self.gives(shown(shorter(program)), shorter(program))

    def test_made_programs(self):
        maker = Maker(42)
        for turn in range(400):
            program = maker.program()
            before = copied(program)
            self.gives(shown(program), program)
            self.gives(shown(shorter(program)), shorter(program))
            self.assertEqual(program, before)

    def test_what_is_made_shorter(self):
        part = num(-BIG)
        for turn in range(148):
            part = ("mul", part, num(BIG))
        program = shorter(([], [("say", part)]))
        self.assertTrue(program[1][0][1][1] == -BIG ** 149)
        self.assertTrue(read(shown(program)) == program)

    def test_deep(self):
        for depth in (149, 200):
            for program in (
                (["a"], [("say", deep_sum("add", name("a"), num(1), depth))]),
                ([], [("while", deep_not(always(), depth), [])]),
                ([], [("when", deep_both(always(), never(), depth), [], [])]),
            ):
                self.gives(shown(program), program)
        for count in (100, 150):
            program = (["a"], deep_orders(("say", num(1)), count))
            self.assertEqual(read(shown(program)), program)

    def test_two_hundred_orders(self):
        program = ([], [("say", num(turn - 100)) for turn in range(200)])
        self.gives(shown(program), program)


class Refused(Case):
    def test_no_word(self):
        self.refused()
        self.refused("")
        self.refused(" ", "", "    ")

    def test_the_examples_of_the_document(self):
        for text in ("jars a a", "jars say 01", "jars say -0", "jars set end 1", "jars end"):
            self.refused(text)
            self.refused(*text.split())

    def test_the_first_word(self):
        for text in ("a", "say 1", "jar", "jarss", "Jars", "JARS", "0", "a jars", "end", "set a 1 jars"):
            self.refused(text)

    def test_the_first_word_twice(self):
        self.refused("jars jars")
        self.refused("jars a jars b")
        self.refused("jars say 1 jars")

    def test_a_name_twice(self):
        self.refused("jars a a")
        self.refused("jars a b a")
        self.refused("jars xy b c xy say 1")
        self.refused("jars a", "b", "b")

    def test_kept_words_as_names(self):
        for word in KEPT:
            with self.subTest(word=word):
                self.refused("jars set " + word + " 1")
                self.refused("jars with " + word + " 1 end")
                self.refused("jars say " + word)
                self.refused("jars " + word)
                self.refused("jars a " + word)
                self.refused("jars say add " + word + " 1")

    def test_no_names(self):
        for word in ("A", "aB", "Ab", "a1", "1a", "a_", "_", "a-b", "-a", "a.", "~", "!", "'", "\"", "+", "a,", "(", "&"):
            with self.subTest(word=word):
                self.refused("jars " + word)
                self.refused("jars a " + word)
                self.refused("jars set " + word + " 1")
                self.refused("jars with " + word + " 1 end")
                self.refused("jars say " + word)
                self.refused("jars say add 1 " + word)

    def test_no_numbers(self):
        for word in (
            "-", "--", "--1", "+1", "+", "-0", "00", "01", "-01", "-00", "000", "1_0", "1a", "a1", "1-", "1.0", "1e3",
            "0x1", "0b1", "1,000", "-a", "-1a", "1-1", "0-", "0_0", "007", "-007", "+0", "0a", "1.",
        ):
            with self.subTest(word=word):
                self.refused("jars say " + word)
                self.refused("jars a set a " + word)
                self.refused("jars say add " + word + " 1")
                self.refused("jars say add 1 " + word)
                self.refused("jars while less 0 " + word + " end")
                self.refused("jars with x " + word + " end")
                self.refused("jars " + word)

    def test_a_number_as_a_name(self):
        for word in ("0", "1", "-1", "12"):
            self.refused("jars " + word)
            self.refused("jars a " + word)
            self.refused("jars set " + word + " 1")
            self.refused("jars with " + word + " 1 end")

    def test_a_sum_as_a_test(self):
        for text in ("1", "a", "add 1 2", "sub 1 2", "mul 1 2"):
            self.refused("jars while " + text + " end")
            self.refused("jars when " + text + " else end")
            self.refused("jars while not " + text + " end")
            self.refused("jars while both " + text + " less 0 0 end")
            self.refused("jars while both less 0 0 " + text + " end")

    def test_a_test_as_a_sum(self):
        for text in ("less 0 0", "same 0 0", "not less 0 0", "both less 0 0 less 0 0"):
            self.refused("jars say " + text)
            self.refused("jars a set a " + text)
            self.refused("jars say add 1 " + text)
            self.refused("jars while less 0 " + text + " end")
            self.refused("jars with x " + text + " end")

    def test_cut_short(self):
        whole = "jars a when both not less a 1 same 0 0 set a add 1 2 else with x 1 while same 0 0 say sub 1 2 end end end"
        words = whole.split()
        self.assertEqual(words_of(shown(read([whole]))), words)
        short = {1, 2}
        for count in range(len(words)):
            if count not in short:
                self.refused(" ".join(words[:count]))

    def test_one_word_more(self):
        for text in ("jars say 1 1", "jars say 1 a", "jars say a a", "jars say add 1 2 3", "jars a set a 1 2"):
            self.refused(text)
        for text in ("jars while not same 0 0 0 end", "jars with x 1 2 end", "jars with x y z end"):
            self.refused(text)

    def test_else_and_end(self):
        for text in (
            "jars end", "jars else", "jars a end", "jars say 1 end", "jars say 1 else",
            "jars when same 0 0 end", "jars when same 0 0 else", "jars when same 0 0",
            "jars when same 0 0 end else", "jars when same 0 0 else else end", "jars when same 0 0 else end end",
            "jars while same 0 0 else end", "jars while same 0 0", "jars while same 0 0 end end",
            "jars with x 0 else end", "jars with x 0", "jars with x 0 end end", "jars with x 0 end else",
            "jars when same 0 0 while less 0 0 else end end", "jars end say 1", "jars else say 1 end",
            "jars while end", "jars when else end", "jars with end", "jars with x end", "jars set a end",
        ):
            with self.subTest(text=text):
                self.refused(text)

    def test_words_behind_the_last_order(self):
        for word in ("a", "1", "less", "not", "add", "end", "else", "jars", "?"):
            self.refused("jars say 1 " + word)
            self.refused("jars while less 0 0 end " + word)


class AnyWords(Case):
    def only_a_written_program(self, words):
        try:
            program = read([" ".join(words)])
        except NoProgram:
            return False
        self.assertTrue(proper(program), words)
        self.assertEqual(words_of(shown(program)), words)
        return True

    def all_rows(self, head, most):
        vocabulary = ["a", "b", "0", "-1", "set", "say", "add", "while", "less", "not", "with", "end", "else", "when"]
        found = 0
        for count in range(most + 1):
            for words in itertools.product(vocabulary, repeat=count):
                found += self.only_a_written_program(head + list(words))
        return found

    def test_all_short_rows_of_words(self):
        self.assertEqual(self.all_rows(["jars"], 4), few_words(4))

    def test_all_short_rows_of_words_behind_a_test(self):
        self.assertGreater(self.all_rows("jars while less a 0".split(), 4), 9)
        self.assertGreater(self.all_rows("jars when less a 0".split(), 4), 9)

    def test_one_word_changed(self):
        source = random.Random(43)
        maker = Maker(43)
        others = KEPT + ["a", "b", "cc", "0", "1", "-1", "-0", "01", "A", "-"]
        outcomes = {True: 0, False: 0}
        for turn in range(400):
            words = words_of(shown(maker.program()))
            place = source.randrange(len(words))
            for changed in (
                words[:place] + words[place + 1:],
                words[:place] + [source.choice(others)] + words[place:],
                words[:place] + [source.choice(others)] + words[place + 1:],
                words[:place] + words[place:place + 2][::-1] + words[place + 2:],
            ):
                outcomes[self.only_a_written_program(changed)] += 1
        self.assertGreater(outcomes[True], 50)
        self.assertGreater(outcomes[False], 50)


def few_words(most):
    """How many programs over the names a and b and the numbers 0 and -1 have up to so many words behind `jars`.

    Reckoned by lengths, without reading: the words of a sum are a leaf, or `add` and two sums; and so on.
    """
    leaves = 4

    def sums(length):
        if length == 1:
            return leaves
        return sum(sums(first) * sums(length - 1 - first) for first in range(1, length - 1))

    def tests(length):
        if length < 3:
            return 0
        plain = sum(sums(first) * sums(length - 1 - first) for first in range(1, length - 1))
        return plain + tests(length - 1)

    def orders(length):
        found = sums(length - 1) if length > 1 else 0
        found += 2 * sums(length - 2) if length > 2 else 0
        for head in range(1, length - 1):
            inner = length - 2 - head
            found += tests(head) * blocks(inner)
            found += 2 * sums(head - 1) * blocks(inner) if head > 1 else 0
            for first in range(inner):
                found += tests(head) * blocks(first) * blocks(inner - 1 - first)
        return found

    def blocks(length):
        if length == 0:
            return 1
        return sum(orders(first) * blocks(length - first) for first in range(1, length + 1))

    ways = {0: 1, 1: 2, 2: 2}
    return sum(ways[row] * blocks(length - row) for length in range(most + 1) for row in ways if row <= length)


if __name__ == "__main__":
    unittest.main()
