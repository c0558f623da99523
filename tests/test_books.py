import unittest

from helpers import drawn_graphs, odd_values
from test_deciding import others, questions
from trellis.books import book_faults, read_book, write_book
from trellis.deciding import decide
from trellis.errors import BadQuestion, BadText, TrellisError
from trellis.families import full_graph, path_graph
from trellis.texts import write_graph, write_value

GRAPH = "graph 2\n0 1\n"
EXAMPLE = GRAPH + "? (connected)\n! (yes ((0 1)))\n? (forest)\n! (no (0 1))\n"


class Writing(unittest.TestCase):
    def test_no_question(self):
        self.assertEqual(write_book((2, ((0, 1),)), []), GRAPH)
        self.assertEqual(write_book((1, ()), []), "graph 1\n")

    def test_the_form(self):
        self.assertEqual(write_book((2, ((0, 1),)), [("connected",)]), GRAPH + "? (connected)\n! (yes ((0 1)))\n")
        self.assertEqual(write_book((1, ()), [("block",), ("trees", 7)]),
                         "graph 1\n? (block)\n! (yes ())\n? (trees 7)\n! (yes ())\n")
        self.assertEqual(write_book((2, ()), [("isomorphic", (1, ())), ("linked", 1, 0, 0)]),
                         "graph 2\n? (isomorphic (1 ()))\n! (no (sizes))\n? (linked 1 0 0)\n! (yes ())\n")

    def test_books_of_every_kind(self):
        for seed, graph in enumerate([(1, ()), path_graph(3), full_graph(5)] + drawn_graphs(81, (4, 6, 8), 4)):
            asked = questions(graph) + [("isomorphic", other) for other in others(graph, seed)]
            text = write_book(graph, asked)
            right, entries = read_book(text)
            self.assertEqual(right, graph)
            self.assertEqual([question for question, _ in entries], asked)
            for question, paper in entries:
                self.assertEqual(paper[0], decide(graph, question)[0])
            self.assertEqual(book_faults(text), [])
            self.assertEqual(text.count("\n"), 1 + len(graph[1]) + 2 * len(asked))
            lines = [f"? {write_value(question)}\n! {write_value(paper)}\n" for question, paper in entries]
            self.assertEqual(text, write_graph(graph) + "".join(lines))

    def test_books_of_twelve_vertices(self):
        for graph in drawn_graphs(82, (12,), 3):
            asked = questions(graph) + [("isomorphic", other) for other in others(graph)] + [("width", 10 ** 29)]
            text = write_book(graph, asked)
            self.assertEqual(book_faults(text), [])
            self.assertEqual(len(read_book(text)[1]), len(asked))

    def test_a_question_that_is_none(self):
        graph = path_graph(3)
        for wrong in odd_values() + [("connected", 0), ("linked", 0, 3, 1), ("colours", True), ("colours", -1)]:
            for asked in ([wrong], [("forest",), wrong], [wrong, ("forest",)]):
                with self.assertRaises(BadQuestion):
                    write_book(graph, asked)

    def test_the_list_stays(self):
        asked = [("forest",), ("planar",)]
        write_book(path_graph(3), asked)
        self.assertEqual(asked, [("forest",), ("planar",)])


class Reading(unittest.TestCase):
    def test_entries(self):
        found = read_book(EXAMPLE)
        self.assertIs(type(found), tuple)
        self.assertEqual(found, (
            (2, ((0, 1),)), [(("connected",), ("yes", ((0, 1),))), (("forest",), ("no", (0, 1)))],
        ))
        self.assertIs(type(found[1]), list)
        self.assertIs(type(found[1][0]), tuple)

    def test_no_entry(self):
        self.assertEqual(read_book(GRAPH), ((2, ((0, 1),)), []))
        self.assertEqual(read_book("graph 60\n"), ((60, ()), []))
        self.assertEqual(book_faults("graph 1\n"), [])

    def test_questions_and_papers_of_any_values(self):
        text = GRAPH + "? 5\n! word\n? ()\n! (() -3 (a b_1))\n? (connected)\n! 0\n"
        self.assertEqual(read_book(text), ((2, ((0, 1),)), [
            (5, "word"), ((), ((), -3, ("a", "b_1"))), (("connected",), 0),
        ]))
        self.assertEqual(book_faults(text), [0, 1, 2])

    def test_the_list_is_new(self):
        read_book(EXAMPLE)[1].clear()
        self.assertEqual(len(read_book(EXAMPLE)[1]), 2)

    def refused(self, text):
        for function in (read_book, book_faults):
            with self.assertRaises(BadText, msg=repr(text)):
                function(text)

    def test_lines_left_out_doubled_or_exchanged(self):
        lines = EXAMPLE.splitlines(keepends=True)
        for at in range(len(lines)):
            left = lines[:at] + lines[at + 1:]
            if at != 1:
                self.refused("".join(left))
            self.refused("".join(lines[:at + 1] + lines[at:]))
            for other in range(at):
                changed = list(lines)
                changed[at], changed[other] = changed[other], changed[at]
                if (other, at) not in ((2, 4), (3, 5)):
                    self.refused("".join(changed))
        self.assertEqual(read_book("".join(lines[:1] + lines[2:]))[0], (2, ()))

    def test_the_last_line_feed(self):
        for text in (EXAMPLE, GRAPH, "graph 1\n"):
            self.refused(text[:-1])
            self.refused(text + "\n")
            self.refused("\n" + text)
            self.refused(text + " ")
        self.refused("")
        self.refused("\n")

    def test_every_character_that_is_left_out_or_put_in(self):
        """What can still be read is told by the lines alone."""
        for at in range(len(EXAMPLE)):
            for mark in ("", EXAMPLE[at] * 2, " " + EXAMPLE[at], "\n" + EXAMPLE[at], "\t", "\r\n", "%"):
                text = EXAMPLE[:at] + mark + EXAMPLE[at + 1:]
                try:
                    graph, entries = read_book(text)
                except BadText:
                    self.refused(text)
                    continue
                lines = [f"? {write_value(question)}\n! {write_value(paper)}\n" for question, paper in entries]
                self.assertEqual(write_graph(graph) + "".join(lines), text)

    def test_further_spaces(self):
        for old, new in (("? (", "?  ("), ("? (", "?("), ("! (", " ! ("), ("! (", "!("), ("(connected)\n",
                         "(connected) \n"), ("(connected)\n", "( connected)\n"), ("0 1\n", "0  1\n"), ("0 1\n", "0 1 \n"),
                         ("(no (0", "(no  (0"), ("? ", "?\t"), ("\n", "\r\n"), ("\n?", "\n\n?"), ("!", "?"), ("?", "!")):
            self.assertIn(old, EXAMPLE)
            self.refused(EXAMPLE.replace(old, new))
            self.refused(EXAMPLE.replace(old, new, 1))

    def test_entries_that_are_no_values(self):
        for wrong in ("", " ", "(", ")", "(connected", "connected)", "A", "1a", "01", "-0", "(a  b)", "1" * 31,
                      "(" * 201 + ")" * 201, "(" * 10 ** 5):
            self.refused(GRAPH + f"? {wrong}\n! 0\n")
            self.refused(GRAPH + f"? 0\n! {wrong}\n")
        deep = "(" * 200 + ")" * 200
        self.assertEqual(book_faults(GRAPH + f"? {deep}\n! {deep}\n"), [0])
        self.assertEqual(book_faults(GRAPH + f"? (width {'9' * 30})\n! {deep}\n"), [0])

    def test_graphs_that_are_none(self):
        for wrong in ("graph 0\n", "graph 61\n", "graph 2\n1 0\n", "graph 2\n0 1\n0 1\n", "Graph 2\n", "0 1\n", "graph\n"):
            self.refused(wrong)
            self.refused(wrong + "? (connected)\n! (yes ())\n")
        self.refused("? (connected)\n! (yes ())\n")


class Faults(unittest.TestCase):
    def test_the_example(self):
        self.assertEqual(book_faults(EXAMPLE), [1])

    def test_each_kind_of_fault(self):
        for lines, right in (
            ("? (connected)\n! (yes ((0 1)))\n", []),
            ("? (connected)\n! (no (0))\n", [0]),
            ("? (connected)\n! (maybe ((0 1)))\n", [0]),
            ("? (connected 1)\n! (yes ((0 1)))\n", [0]),
            ("? (linked 0 2 0)\n! (yes ())\n", [0]),
            ("? (linked 0 1 0)\n! (yes ())\n", []),
            ("? (isomorphic (2 ((0 1))))\n! (yes (1 0))\n", []),
            ("? (isomorphic (2 ((1 0))))\n! (yes (1 0))\n", [0]),
            ("? (colours -1)\n! (no (clique ()))\n", [0]),
            ("? (colours 0)\n! (no (clique (1)))\n", []),
        ):
            self.assertEqual(book_faults(GRAPH + lines), right, lines)
            self.assertEqual(book_faults(EXAMPLE + lines), [1] + [at + 2 for at in right])

    def test_papers_of_other_questions(self):
        graph = path_graph(4)
        asked = [("forest",), ("connected",), ("colours", 1), ("chordal",), ("matching", 3)]
        lines = write_book(graph, asked).splitlines(keepends=True)
        head, entries = lines[:4], lines[4:]
        turned = entries[:]
        turned[1], turned[3] = entries[3], entries[1]
        self.assertEqual(book_faults("".join(head + turned)), [0, 1])
        self.assertEqual(book_faults("".join(head + entries)), [])
        self.assertEqual(book_faults("".join(head[:-1] + entries)), [1])

    def test_errors_of_books(self):
        self.assertTrue(issubclass(BadText, TrellisError))
