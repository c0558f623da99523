"""The data of papers once the vertices are renamed."""

from trellis.graphs import edge_of
from trellis.nested import with_numbers


def renamed_data(kind, answer, data, order):
    """Return the data of a right paper with an answer to a question of a kind, once each v is renamed to order[v]."""
    match (answer, kind):
        case ("yes", "bipartite" | "independent"):
            return _new_set(data, order)
        case ("no", "connected" | "linked" | "degenerate" | "indegree" | "forests" | "prime" | "matching"):
            return _new_set(data, order)
        case ("no", "block" | "width"):
            return _new_sets(data, order)
        case ("no", "trees"):
            return tuple(sorted(_new_sets(data, order)))
        case ("yes", "width"):
            bags, links = data
            return _new_sets(bags, order), links
        case ("yes", "connected" | "matching"):
            return _new_edges(data, order)
        case ("yes", "forests" | "trees"):
            return tuple([_new_edges(part, order) for part in data])
        case ("yes", "indegree" | "comparability"):
            arrows = _in_new_form(data, order)
            return tuple(sorted(arrows, key=lambda arrow: edge_of(arrow[0], arrow[1])))
        case ("yes", "interval" | "colours" | "isomorphic"):
            return _placed(data, order)
        case ("yes", "planar"):
            return _placed(_in_new_form(data, order), order)
        case ("yes", "prime"):
            return _new_rows_of_pairs(data, order)
        case ("no", "colours" | "independent" | "isomorphic"):
            return _new_search(kind, data, order)
    # Whatever else is told, orders, paths, cycles, chains and trees among it, all its integers are vertices.
    return _in_new_form(data, order)


def _in_new_form(data, order):
    """Return data of the same form in which each vertex has its new number."""
    return with_numbers(data, lambda v: order[v])


def _new_set(members, order):
    return tuple(sorted([order[v] for v in members]))


def _new_sets(sets, order):
    return tuple([_new_set(members, order) for members in sets])


def _new_edges(edges, order):
    return tuple(sorted([edge_of(order[u], order[v]) for u, v in edges]))


def _placed(items, order):
    """Return the tuple in which the item of each vertex stands at the place of its new number."""
    found = list(items)
    for v, item in enumerate(items):
        found[order[v]] = item
    return tuple(found)


def _new_rows_of_pairs(rows, order):
    """Return the rows of all pairs of vertices, neighbours or not, at the places of the new pairs."""
    n = len(order)
    pairs = [(u, v) for u in range(n) for v in range(u + 1, n)]
    found = {edge_of(order[u], order[v]): _in_new_form(row, order) for (u, v), row in zip(pairs, rows)}
    return tuple([found[pair] for pair in pairs])


def _new_search(kind, search, order):
    if kind == "colours":
        return _new_colour_search(search, order)
    if kind == "independent":
        return _new_set_search(search, order)
    return _new_pairing_search(search, order)


def _new_colour_search(search, order):
    """Return a colour search for the renamed graph.

    The tasks, the next one last, are to look at a search, with a new number for each vertex of the graph at hand, and
    to make a split of the last two searches that are done.
    """
    waiting = [("look", search, order)]
    done = []
    while waiting:
        task = waiting.pop()
        if task[0] == "split":
            different = done.pop()
            same = done.pop()
            done.append((*task, same, different))
        elif task[1][0] == "clique":
            done.append(("clique", _new_set(task[1][1], task[2])))
        else:
            waiting.extend(_split_tasks(task[1], task[2]))
    return done[0]


def _split_tasks(search, numbers):
    _, u, v, same, different = search
    pair = _new_set((u, v), numbers)
    # Both are one vertex from here on, called u, which has the least number of all that it stands for.
    one = tuple([pair[0] if w == u else number for w, number in enumerate(numbers)])
    return [("split", *pair), ("look", different, numbers), ("look", same, one)]


def _new_set_search(search, order):
    if search[0] == "cover":
        return "cover", _new_sets(search[1], order)
    _, v, taken, not_taken = search
    return "take", order[v], _new_set_search(taken, order), _new_set_search(not_taken, order)


def _new_pairing_search(search, order):
    if search[0] != "try":
        return search
    _, v, searches = search
    return "try", order[v], tuple([_new_pairing_search(further, order) for further in searches])
