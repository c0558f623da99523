"""Papers that follow a graph when its vertices are renamed or it is edited."""

from trellis.checking import check
from trellis.edits import edited
from trellis.nested import with_numbers
from trellis.renaming import renamed_data


def renamed_question(question, order):
    """Return the question once each vertex v is renamed to order[v]."""
    if question[0] != "linked":
        return question
    kind, s, t, k = question
    return kind, order[s], order[t], k


def renamed_paper(graph, question, paper, order):
    """Return the right paper for the renamed graph and question that says the same as a right paper for the graph."""
    answer, data = paper
    return answer, renamed_data(question[0], answer, data, order)


def carried(graph, edit, question, paper):
    """Return a right paper for the edited graph that is made of a right paper for the graph, or None."""
    after = edited(graph, edit)
    if edit[0] != "drop":
        return _if_right(after, question, paper)
    if question[0] == "linked" or question[0] == "isomorphic":
        return None
    answer, data = paper
    gone = edit[1]
    return _if_right(after, question, (answer, with_numbers(data, lambda v: v - 1 if v > gone else v)))


def _if_right(graph, question, paper):
    return paper if check(graph, question, paper) else None
