"""Books: texts about a graph with questions and papers."""

from trellis.checking import check
from trellis.deciding import decide
from trellis.errors import BadText
from trellis.questions import is_question
from trellis.texts import read_graph, read_value, write_graph, write_value

QUESTION_MARK = "? "
PAPER_MARK = "! "


def write_book(graph, questions):
    """Return the book of a graph with a list of questions and papers that answer them."""
    lines = []
    for question in questions:
        paper = decide(graph, question)
        lines.append(f"{QUESTION_MARK}{write_value(question)}\n")
        lines.append(f"{PAPER_MARK}{write_value(paper)}\n")
    return write_graph(graph) + "".join(lines)


def read_book(text):
    """Return the graph of a book, and the list of the pairs of a question and a paper, which may be any values."""
    lines = text.split("\n")
    # Behind the line feed of the last line nothing is left.
    if lines[-1] != "":
        raise BadText("the last line has no line feed")
    marked = [at for at, line in enumerate(lines) if line.startswith(QUESTION_MARK)]
    first = marked[0] if marked else len(lines) - 1
    graph = read_graph("".join([f"{line}\n" for line in lines[:first]]))
    return graph, _entries(lines[first:-1])


def _entries(lines):
    if len(lines) % 2 == 1:
        raise BadText("a question has no paper")
    return [(_value(lines[at], QUESTION_MARK), _value(lines[at + 1], PAPER_MARK)) for at in range(0, len(lines), 2)]


def _value(line, mark):
    """Return the value behind the mark of a line."""
    if not line.startswith(mark):
        raise BadText("a line does not begin with its mark")
    return read_value(line[len(mark):])


def book_faults(text):
    """Return the ascending list of the indexes of the entries without a question for the graph or a right paper."""
    graph, entries = read_book(text)
    return [at for at, (question, paper) in enumerate(entries) if not _is_right(graph, question, paper)]


def _is_right(graph, question, paper):
    return is_question(graph, question) and check(graph, question, paper)
