"""Texts of graphs and of values, and back."""

from trellis.errors import BadText
from trellis.graphs import is_graph

LETTERS = "abcdefghijklmnopqrstuvwxyz"
LETTERS_AND_MORE = "abcdefghijklmnopqrstuvwxyz0123456789_"
DIGITS = "0123456789"
MOST_DIGITS_IN_A_GRAPH = 4
MOST_DIGITS_IN_A_VALUE = 30
MOST_BRACKETS = 200


def write_graph(graph):
    """Return the text of a graph."""
    n, edges = graph
    return "".join([f"graph {n}\n"] + [f"{u} {v}\n" for u, v in edges])


def read_graph(text):
    """Return the graph of a text."""
    lines = text.split("\n")
    # Behind the line feed of the last line nothing is left.
    if lines[-1] != "":
        raise BadText("the last line has no line feed")
    graph = _first_number(lines[0]), tuple([_pair(line) for line in lines[1:-1]])
    if not is_graph(graph):
        raise BadText("these numbers are no graph")
    return graph


def _first_number(line):
    words = line.split(" ")
    if len(words) != 2 or words[0] != "graph":
        raise BadText("the first line of a graph tells its number of vertices")
    return _number(words[1], MOST_DIGITS_IN_A_GRAPH)


def _pair(line):
    words = line.split(" ")
    if len(words) != 2:
        raise BadText("a line of an edge has two numbers")
    return tuple([_number(word, MOST_DIGITS_IN_A_GRAPH) for word in words])


def _number(word, most):
    """Return the number that at most so many digits stand for."""
    if not _consists_of(word, DIGITS) or len(word) > most:
        raise BadText("this is no number, or it has too many digits")
    if word[0] == "0" and len(word) > 1:
        raise BadText("a number has a zero in front")
    return int(word)


def _consists_of(word, characters):
    return word != "" and all(character in characters for character in word)


def write_value(value):
    """Return the text of a value."""
    done = []
    # Behind the first item stands what is still to be written, the next one last.
    waiting = [value]
    while waiting:
        item = waiting.pop()
        if isinstance(item, tuple):
            waiting.extend(_taken_apart(item))
        else:
            done.append(str(item))
    return "".join(done)


def _taken_apart(items):
    """Return what the text of a tuple is made of, texts and values, the last one first."""
    pieces = [")"]
    for at, item in enumerate(items[::-1]):
        if at > 0:
            pieces.append(" ")
        pieces.append(item)
    pieces.append("(")
    return pieces


def read_value(text):
    """Return the value of a text."""
    # The items so far of each tuple that is not closed yet, the innermost last; before them, the value itself.
    begun = [[]]
    for chunk in text.split(" "):
        opened, atom, closed = _parts(chunk)
        begun.extend([[] for _ in range(opened)])
        if len(begun) - 1 > MOST_BRACKETS:
            raise BadText("brackets are nested too deep")
        if closed > len(begun) - 1:
            raise BadText("a bracket is closed that was not opened")
        if atom != "":
            begun[-1].append(_atom(atom))
        for _ in range(closed):
            items = begun.pop()
            begun[-1].append(tuple(items))
    if len(begun) != 1 or len(begun[0]) != 1:
        raise BadText("a bracket is not closed, or there is more than one value")
    return begun[0][0]


def _parts(chunk):
    """Return of a text without spaces how many brackets it opens, what stands between, and how many it closes."""
    rest = chunk.lstrip("(")
    atom = rest.rstrip(")")
    opened = len(chunk) - len(rest)
    closed = len(rest) - len(atom)
    if atom == "" and (opened == 0 or closed == 0):
        raise BadText("a space has no value beside it")
    return opened, atom, closed


def _atom(text):
    if text[0] in LETTERS:
        return _word(text)
    if text[0] == "-":
        return _negative(text[1:])
    return _number(text, MOST_DIGITS_IN_A_VALUE)


def _word(text):
    if not _consists_of(text, LETTERS_AND_MORE):
        raise BadText("a word has lower-case letters, digits and underscores only")
    return text


def _negative(text):
    size = _number(text, MOST_DIGITS_IN_A_VALUE)
    if size == 0:
        raise BadText("zero is not negative")
    return -size
