"""The numbers of graphs: where the answers to questions with a number change."""

from trellis.deciding import decide
from trellis.errors import BadQuestion, NoNumber
from trellis.questions import KINDS, NUMBER_KINDS, is_question

# The answer to the others of the kinds with a number changes from yes to no.
KINDS_FROM_NO_TO_YES = ("degenerate", "indegree", "forests", "width", "colours")


def number_of(graph, kind):
    """Return the number of a graph for a kind, a paper for the question with it, and one with the other answer."""
    if not isinstance(kind, str) or kind not in NUMBER_KINDS:
        raise BadQuestion("no question of this kind has a number")
    if kind == "trees" and graph[0] == 1:
        raise NoNumber("a single vertex is connected by any number of sets of edges")
    return _least(graph, kind) if kind in KINDS_FROM_NO_TO_YES else _greatest(graph, (kind,))


def _least(graph, kind):
    k = 0
    other = None
    paper = decide(graph, (kind, k))
    while paper[0] == "no":
        k += 1
        other = paper
        paper = decide(graph, (kind, k))
    return k, paper, other


def _greatest(graph, beginning):
    """Return the greatest number behind the beginning of a question with the answer yes, and both papers."""
    k = 0
    paper = decide(graph, (*beginning, k))
    other = decide(graph, (*beginning, k + 1))
    while other[0] == "yes":
        k += 1
        paper = other
        other = decide(graph, (*beginning, k + 1))
    return k, paper, other


def paths_between(graph, s, t):
    """Return how many paths link two vertices, a paper for the question with this number, and one with the next one."""
    return _greatest(graph, ("linked", s, t))


def profile(graph):
    """Return the dictionary from each kind without parameters to its answer, and from each with a number to this."""
    found = {kind: decide(graph, (kind,))[0] for kind in KINDS if is_question(graph, (kind,))}
    for kind in NUMBER_KINDS:
        found[kind] = _number_or_none(graph, kind)
    return found


def _number_or_none(graph, kind):
    try:
        return number_of(graph, kind)[0]
    except NoNumber:
        return None
