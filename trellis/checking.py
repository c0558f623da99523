"""The check of papers."""

from trellis.check_classes import is_class_paper
from trellis.check_drawings import is_drawing_paper
from trellis.check_parts import is_part_paper
from trellis.check_searches import is_search_paper
from trellis.check_sparse import is_sparse_paper
from trellis.check_walks import is_walk_paper
from trellis.errors import BadQuestion
from trellis.forms import is_tuple
from trellis.questions import is_question


def check(graph, question, paper):
    """Return whether a paper, whatever it is, is right for a graph and a question."""
    if not is_question(graph, question):
        raise BadQuestion("this is no question for the graph")
    if not is_tuple(paper, 2) or not isinstance(paper[0], str):
        return False
    answer, data = paper
    return _is_right(graph, question, answer, data)


def _is_right(graph, question, answer, data):
    match question[0]:
        case "connected" | "bipartite" | "forest" | "block" | "linked":
            return is_walk_paper(graph, question, answer, data)
        case "degenerate" | "indegree" | "forests" | "trees":
            return is_sparse_paper(graph, question, answer, data)
        case "chordal" | "interval" | "comparability" | "permutation":
            return is_class_paper(graph, question, answer, data)
        case "cograph" | "prime" | "width":
            return is_part_paper(graph, question, answer, data)
        case "planar" | "outerplanar":
            return is_drawing_paper(graph, question, answer, data)
        case _:
            return is_search_paper(graph, question, answer, data)
