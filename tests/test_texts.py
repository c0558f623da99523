import re
import unittest
from itertools import product

from helpers import all_pairs, small_graphs
from trellis.errors import BadText
from trellis.texts import read_graph, read_value, write_graph, write_value

FULL_60 = (60, tuple(all_pairs(60)))


class Tries(unittest.TestCase):
    function = None

    def refuses(self, text):
        with self.assertRaises(BadText, msg=repr(text[:100])):
            type(self).function(text)


class TextsOfGraphs(Tries):
    function = staticmethod(read_graph)

    def test_the_example(self):
        self.assertEqual(read_graph("graph 3\n0 1\n1 2\n"), (3, ((0, 1), (1, 2))))
        self.assertEqual(write_graph((3, ((0, 1), (1, 2)))), "graph 3\n0 1\n1 2\n")

    def test_there_and_back(self):
        for graph in small_graphs() + [(60, ()), FULL_60, (60, ((0, 59), (58, 59)))]:
            text = write_graph(graph)
            lines = [f"graph {graph[0]}"] + [f"{u} {v}" for u, v in graph[1]]
            self.assertEqual(text, "".join(line + "\n" for line in lines))
            self.assertEqual(read_graph(text), graph)

    def test_the_kinds_of_the_parts(self):
        n, edges = read_graph("graph 2\n0 1\n")
        self.assertEqual([type(n), type(edges), type(edges[0]), type(edges[0][0])], [int, tuple, tuple, int])

    def test_numbers_of_vertices(self):
        self.assertEqual(read_graph("graph 1\n"), (1, ()))
        self.assertEqual(read_graph("graph 60\n"), (60, ()))
        for number in ("0", "61", "100", "9999", "10000", "00001", "1" * 31, "1" * 5000, "-1", "", "x", "1.0", "1e1"):
            self.refuses(f"graph {number}\n")

    def test_zeros_in_front_and_signs(self):
        for text in ("graph 03\n0 1\n", "graph 003\n", "graph +3\n", "graph -3\n", "graph -0\n"):
            self.refuses(text)
        for pair in ("00 1", "0 01", "0 0001", "+0 1", "0 +1", "-0 1", "0 -1", "0_0 1", "0 1_0"):
            self.refuses(f"graph 12\n{pair}\n")

    def test_long_numbers(self):
        for number in ("10000", "12345", "1" * 30, "1" * 5000):
            self.refuses(f"graph 3\n0 {number}\n")
            self.refuses(f"graph 3\n{number} 1\n")

    def test_digits_of_other_scripts(self):
        for digit in ("\u0661", "\uff11", "\u00b2", "\u2460", "\U0001d7cf"):
            self.refuses(f"graph {digit}\n")
            self.refuses(f"graph 3\n0 {digit}\n")

    def test_lines_exchanged_doubled_or_left_out(self):
        self.refuses("graph 3\n1 2\n0 1\n")
        self.refuses("graph 3\n0 1\n0 1\n")
        self.refuses("0 1\ngraph 3\n")
        self.refuses("0 1\n1 2\n")
        self.refuses("graph 3\ngraph 3\n0 1\n")
        self.refuses("graph 3\n0 1\ngraph 3\n")
        self.refuses("graph 3\n\n0 1\n")
        self.refuses("\ngraph 3\n0 1\n")

    def test_other_edges(self):
        for pair in ("1 0", "1 1", "0 3", "3 4", "0", "0 1 2", "0,1", "a b", "0 b"):
            self.refuses(f"graph 3\n{pair}\n")

    def test_further_spaces(self):
        for text in (
            " graph 3\n", "graph  3\n", "graph 3 \n", "graph 3\n 0 1\n", "graph 3\n0  1\n", "graph 3\n0 1 \n",
            "graph\t3\n", "graph 3\n0\t1\n", "graph 3\n0 1\n \n", "graph 3\n0\u00a01\n", "graph3\n", "graph 3\n01\n",
        ):
            self.refuses(text)

    def test_other_words(self):
        for text in ("Graph 3\n", "graphs 3\n", "grap 3\n", "3\n", "graph\n", "graph \n", "3 graph\n", "graph 3 0 1\n"):
            self.refuses(text)

    def test_the_line_feeds(self):
        self.refuses("")
        self.refuses("\n")
        self.refuses("graph 3")
        self.refuses("graph 3\n\n")
        self.refuses("graph 3\n0 1")
        self.refuses("graph 3\n0 1\n\n")
        for feed in ("\r\n", "\r", "\x0b", "\x0c", "\u2028", "\x85"):
            self.refuses(f"graph 3{feed}0 1\n")
            self.refuses(f"graph 3\n0 1{feed}")

    def test_every_text_with_one_change(self):
        """A changed text is refused, or it is the text of a graph."""
        for given in ("graph 12\n0 1\n1 10\n", "graph 3\n"):
            for at, character in product(range(len(given) + 1), "\n 019-x\t"):
                for text in (given[:at] + given[at + 1:], given[:at] + character + given[at:],
                             given[:at] + character + given[at + 1:]):
                    try:
                        graph = read_graph(text)
                    except BadText:
                        continue
                    self.assertEqual(write_graph(graph), text)


def values():
    """Some values of every form."""
    atoms = [0, 7, -1, 10, -120, 10 ** 29, 10 ** 30 - 1, -(10 ** 30 - 1), "a", "yes", "a1", "a_", "z_9z", "x" * 300]
    nested = [(), ((),), ((), ()), (((),),), (1,), (1, 2), ("yes", ((0, 1), (1, 2))), ("a", (), -3, ("b", (1,), ()))]
    return atoms + nested + [(atom,) for atom in atoms] + [tuple(atoms), tuple(nested), (tuple(nested), tuple(atoms))]


def nested(depth, value=()):
    for _ in range(depth - 1):
        value = (value,)
    return value


class TextsOfValues(Tries):
    function = staticmethod(read_value)

    def reads(self, text, value):
        found = read_value(text)
        self.assertEqual(repr(found), repr(value), text)

    def test_the_examples(self):
        self.assertEqual(write_value(("yes", ((0, 1), -2))), "(yes ((0 1) -2))")
        self.reads("(yes ((0 1) (1 2)))", ("yes", ((0, 1), (1, 2))))

    def test_there_and_back(self):
        for value in values():
            text = write_value(value)
            plain = repr(value).replace("'", "").replace(",)", ")").replace(",", "")
            self.assertEqual(text, plain)
            self.reads(text, value)

    def test_integers(self):
        for number in (0, 1, 9, 10, 1234567890, 10 ** 29, 10 ** 30 - 1):
            self.reads(str(number), number)
            self.reads(f"({number})", (number,))
            if number > 0:
                self.reads(f"-{number}", -number)

    def test_thirty_one_digits(self):
        for digits in ("1" * 31, "1" + "0" * 30, "9" * 31, "1" * 5000, "0" * 31):
            for text in (digits, "-" + digits, f"({digits})", f"(a (-{digits}))"):
                self.refuses(text)
        self.reads("9" * 30, int("9" * 30))
        self.reads("-" + "9" * 30, -int("9" * 30))

    def test_other_integers(self):
        for text in ("-0", "00", "01", "-01", "-00", "+1", "--1", "-", "1-", "1.0", "1_0", "0x1", "1a", "-a", "1e3",
                     "\u0661", "\u00b2", "-\uff11"):
            self.refuses(text)
            self.refuses(f"({text})")

    def test_words(self):
        for text in ("a", "z", "yes", "no_1", "a_", "a__b", "x9", "none", "true"):
            self.reads(text, text)
        for text in ("A", "yEs", "_a", "_", "1a", "a-b", "a.b", "\u00e4", "a\u00e4", "a\u00b2", "a'b", '"a"', "a,b"):
            self.refuses(text)
            self.refuses(f"({text})")

    def test_spaces(self):
        for text in ("", " ", "  ", " 1", "1 ", "1 2", "( )", "(1 )", "( 1)", "(1  2)", "(1 2 )", " ()", "() ", "a b",
                     "(1\t2)", "(1\n2)", "1\n", "\n", "(1\u00a02)", "()()", "() ()", "(1)2", "1(2)",
                     "((1)(2))", "(1(2))"):
            self.refuses(text)

    def test_brackets(self):
        for text in ("(", ")", "((", "))", "(()", "())", ")(", "(1", "1)", "((1)", "(1))", "(1 (2)", "(1 2)) (3)",
                     "1 (2", "a (b (c)", "() (()", "1 2)"):
            self.refuses(text)

    def test_depth(self):
        for depth in (1, 2, 100, 199, 200):
            text = "(" * depth + ")" * depth
            self.assertEqual(write_value(nested(depth)), text)
            self.reads(text, nested(depth))
            self.reads("(" * depth + "a" + ")" * depth, nested(depth, ("a",)))
        for depth in (201, 202, 1000, 100000):
            self.refuses("(" * depth + ")" * depth)
            self.refuses("(" * depth + "1" + ")" * depth)
            self.refuses("(" * depth)
            self.refuses("(1 " * depth + "1" + ")" * depth)

    def test_many_brackets_that_are_not_deep(self):
        self.reads("(" + " ".join(["(())"] * 1000) + ")", (((),),) * 1000)
        inner = "(" * 199 + ")" * 199
        self.assertEqual(write_value(read_value(f"({inner} {inner})")), f"({inner} {inner})")
        self.refuses(f"(({inner}) {inner})")
        self.refuses(f"({inner} ({inner}))")

    def test_long_texts(self):
        self.reads("(" + "1 " * 50000 + "1)", (1,) * 50001)
        self.refuses("(" + "1 " * 50000 + "1")
        self.refuses(")" * 100000)
        self.refuses(" " * 100000)
        self.refuses("1" * 100000)
        self.reads("a" * 100000, "a" * 100000)

    def test_every_text_with_one_change(self):
        """A changed text is refused, or it is the text of a value; the others are refused as the reader below says."""
        for given in ("(yes ((0 1) (1 -2)))", "(a () 10)", "-12", "ab_1", "()"):
            for at, character in product(range(len(given) + 1), "() a1-0_A\n"):
                for text in (given[:at] + given[at + 1:], given[:at] + character + given[at:],
                             given[:at] + character + given[at + 1:]):
                    try:
                        value = read_value(text)
                    except BadText:
                        self.assertFalse(is_text_of_value(text), text)
                        continue
                    self.assertTrue(is_text_of_value(text), text)
                    self.assertEqual(write_value(value), text)

    def test_the_kinds(self):
        found = read_value("(a (1))")
        self.assertEqual([type(found), type(found[0]), type(found[1]), type(found[1][0])], [tuple, str, tuple, int])


def is_text_of_value(text):
    """The form of a text of a value, by replacing items and brackets around them until one item is left."""
    text = re.sub(r"(?<![^( ])(0|-?[1-9][0-9]*|[a-z][a-z0-9_]*)(?![^ )])", "V", text.replace("V", "?"))
    while True:
        shorter = re.sub(r"(?<![^( ])\((V( V)*)?\)(?![^ )])", "V", text)
        if shorter == text:
            return text == "V"
        text = shorter
