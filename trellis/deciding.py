"""The answers to questions about graphs, with papers that show them."""

from trellis.decide_classes import class_paper
from trellis.decide_drawings import drawing_paper
from trellis.decide_parts import part_paper
from trellis.decide_searches import search_paper
from trellis.decide_sparse import sparse_paper
from trellis.decide_walks import walk_paper
from trellis.errors import BadQuestion
from trellis.questions import is_question


def decide(graph, question):
    """Return a right paper for a graph and a question."""
    if not is_question(graph, question):
        raise BadQuestion("this is no question for the graph")
    match question[0]:
        case "connected" | "bipartite" | "forest" | "block" | "linked":
            return walk_paper(graph, question)
        case "degenerate" | "indegree" | "forests" | "trees":
            return sparse_paper(graph, question)
        case "chordal" | "interval" | "comparability" | "permutation":
            return class_paper(graph, question)
        case "cograph" | "prime" | "width":
            return part_paper(graph, question)
        case "planar" | "outerplanar":
            return drawing_paper(graph, question)
        case _:
            return search_paper(graph, question)
