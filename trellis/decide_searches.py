"""The papers that answer questions by searches: colours, sets, matchings, and graphs that are alike.

A search is made of tasks, the next one last: to look at a case, or to put the searches found for its further cases
together to one. So no search is too deep, however long it goes on.
"""

from trellis.matchings import barrier, largest_matching
from trellis.pairings import Pairing
from trellis.tables import first_of, full_mask, joined, members_of, merged, neighbour_masks, size_of


def search_paper(graph, question):
    """Return a right paper for a question that is answered by a search."""
    match question[0]:
        case "colours":
            return _colours_paper(graph, question[1])
        case "independent":
            return _independent_paper(graph, question[1])
        case "matching":
            return _matching_paper(graph, question[1])
    return _isomorphic_paper(graph, question[1])


def _matching_paper(graph, k):
    edges = largest_matching(graph)
    return ("yes", edges[:k]) if len(edges) >= k else ("no", barrier(graph))


def _colours_paper(graph, k):
    n = graph[0]
    # For each vertex, the one that stands for it: the least one of all that have been merged.
    waiting = [("look", neighbour_masks(graph), full_mask(n), tuple(range(n)))]
    done = []
    while waiting:
        task = waiting.pop()
        if task[0] == "split":
            different = done.pop()
            same = done.pop()
            done.append((*task, same, different))
        else:
            _, around, left, standing = task
            clique = _clique(around, left)
            if size_of(clique) > k:
                done.append(("clique", members_of(clique)[:k + 1]))
            elif size_of(left) <= k:
                number = {v: at for at, v in enumerate(members_of(left))}
                return "yes", tuple([number[v] for v in standing])
            else:
                waiting.extend(_colour_tasks(around, left, standing, _pair_to_split(around, left, clique)))
    return "no", done[0]


def _clique(around, left):
    """Return the largest of the cliques that grow from the vertices of a mask."""
    best = 0
    for v in members_of(left):
        clique = 1 << v
        common = around[v] & left
        while common != 0:
            u = max(members_of(common), key=lambda w: size_of(around[w] & common))
            clique |= 1 << u
            common &= around[u]
        if size_of(clique) > size_of(best):
            best = clique
    return best


def _pair_to_split(around, left, clique):
    """Return a vertex with the most neighbours in a clique, and one of the clique that is none, the least first."""
    others = members_of(left & ~clique)
    v = max(others, key=lambda w: (size_of(around[w] & clique), size_of(around[w] & left)))
    return tuple(sorted([v, first_of(clique & ~around[v])]))


def _colour_tasks(around, left, standing, pair):
    u, v = pair
    one = tuple([u if w == v else w for w in standing])
    return [
        ("split", u, v),
        ("look", joined(around, u, v), left, standing),
        ("look", merged(around, u, v), left & ~(1 << v), one),
    ]


def _independent_paper(graph, k):
    around = neighbour_masks(graph)
    waiting = [("look", full_mask(graph[0]), ())]
    done = []
    while waiting:
        task = waiting.pop()
        if task[0] == "take":
            not_taken = done.pop()
            taken = done.pop()
            done.append((*task, taken, not_taken))
        else:
            _, left, chosen = task
            cover = _cover(around, left)
            if len(chosen) == k:
                return "yes", tuple(sorted(chosen))
            if len(cover) < k - len(chosen):
                done.append(("cover", cover))
            else:
                v = max(members_of(left), key=lambda w: size_of(around[w] & left))
                others = left & ~(1 << v)
                waiting.extend([("take", v), ("look", others, chosen), ("look", others & ~around[v], (*chosen, v))])
    return "no", done[0]


def _cover(around, left):
    """Return a tuple of cliques without common vertices that have the vertices of a mask together."""
    cliques = []
    while left != 0:
        v = min(members_of(left), key=lambda w: size_of(around[w] & left))
        clique = 1 << v
        common = around[v] & left
        while common != 0:
            u = min(members_of(common), key=lambda w: size_of(around[w] & left))
            clique |= 1 << u
            common &= around[u]
        cliques.append(members_of(clique))
        left &= ~clique
    return tuple(cliques)


def _isomorphic_paper(graph, other):
    if graph[0] != other[0] or len(graph[1]) != len(other[1]):
        return "no", ("sizes",)
    pairing = Pairing(graph, other)
    waiting = [("look", ())]
    done = []
    while waiting:
        task = waiting.pop()
        if task[0] == "try":
            _, v, many = task
            done[-many:] = [("try", v, tuple(done[-many:]))]
        else:
            pairs = task[1]
            reason = pairing.reason(pairs)
            if reason is not None:
                done.append(reason)
            elif len(pairs) == graph[0]:
                return "yes", tuple([w for _, w in sorted(pairs)])
            else:
                v = pairing.next_vertex(pairs)
                further = pairing.further(pairs, v)
                waiting.append(("try", v, len(further)))
                waiting.extend([("look", longer) for longer in further[::-1]])
    return "no", done[0]
