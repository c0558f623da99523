"""The papers of questions that are answered by searches: colours, sets, matchings, and graphs that are alike."""

from trellis.forms import are_edges_of, is_headed, is_integer, is_order, is_set, is_tuple, is_vertex
from trellis.graphs import are_neighbours, components, induced, inside, neighbours, renamed
from trellis.tables import full_mask, has, is_clique, is_within, joined, mask_of, merged, neighbour_masks


def is_search_paper(graph, question, answer, data):
    """Return whether an answer with data, whatever these are, is a right paper for a question answered by a search."""
    match (answer, *question):
        case ("yes", "colours", k):
            return _are_colours(graph[0], k, data) and _do_neighbours_differ(graph, data)
        case ("no", "colours", k):
            return _is_colour_search(graph, k, data)
        case ("yes", "independent", k):
            return is_set(graph[0], data) and len(data) == k and inside(graph, data) == 0
        case ("no", "independent", k):
            return _is_set_search(graph, k, data)
        case ("yes", "matching", k):
            return are_edges_of(graph, data) and len(data) == k and _have_no_common_end(data)
        case ("no", "matching", k):
            return is_set(graph[0], data) and _most_matched(graph, data) < k
        case ("yes", "isomorphic", other):
            return is_order(graph[0], data) and renamed(graph, data) == other
        case ("no", "isomorphic", other):
            if _sizes(graph) != _sizes(other):
                return is_headed(data, "sizes", 1)
            return _is_pairing_search(graph, other, data)
    return False


def _are_colours(n, k, value):
    return is_tuple(value, n) and all(is_integer(colour) and 0 <= colour < k for colour in value)


def _do_neighbours_differ(graph, colours):
    return all([colours[u] != colours[v] for u, v in graph[1]])


def _is_colour_search(graph, k, value):
    """Return whether a value is a colour search that shows that k colours are too few."""
    waiting = [(neighbour_masks(graph), full_mask(graph[0]), value)]
    while waiting:
        around, left, search = waiting.pop()
        if is_headed(search, "clique", 2):
            if not _is_clique_among(around, left, search[1]) or len(search[1]) != k + 1:
                return False
        elif _is_split(around, left, search):
            _, u, v, same, different = search
            waiting.append((merged(around, u, v), left & ~(1 << v), same))
            waiting.append((joined(around, u, v), left, different))
        else:
            return False
    return True


def _is_clique_among(around, left, value):
    """Return whether a value is a set of vertices that are left and pairwise neighbours."""
    return is_set(len(around), value) and is_within(mask_of(value), left) and is_clique(around, mask_of(value))


def _is_split(around, left, value):
    """Return whether a value is a split of two vertices that are left and no neighbours."""
    if not is_headed(value, "split", 5) or not is_set(len(around), value[1:3]):
        return False
    u, v = value[1:3]
    return has(left, u) and has(left, v) and not has(around[u], v)


def _is_set_search(graph, k, value):
    """Return whether a value is a set search that shows that no k vertices are without edges between them."""
    around = neighbour_masks(graph)
    waiting = [(full_mask(graph[0]), k, value)]
    while waiting:
        left, many, search = waiting.pop()
        if is_headed(search, "cover", 2):
            if not _is_cover(around, left, search[1]) or len(search[1]) >= many:
                return False
        elif is_headed(search, "take", 4) and is_vertex(graph[0], search[1]) and has(left, search[1]):
            _, v, taken, not_taken = search
            others = left & ~(1 << v)
            waiting.append((others & ~around[v], many - 1, taken))
            waiting.append((others, many, not_taken))
        else:
            return False
    return True


def _is_cover(around, left, value):
    """Return whether a value is a tuple of cliques, none of them empty, that have the vertices left together."""
    if not isinstance(value, tuple):
        return False
    if not all([_is_clique_among(around, left, members) and members != () for members in value]):
        return False
    return mask_of([v for members in value for v in members]) == left


def _have_no_common_end(edges):
    ends = [v for edge in edges for v in edge]
    return len(set(ends)) == len(ends)


def _most_matched(graph, members):
    """Return a number of edges that no matching exceeds, by the odd components that are left without a set."""
    n = graph[0]
    others = tuple([v for v in range(n) if v not in members])
    odd = [part for part in components(induced(graph, others)) if len(part) % 2 == 1]
    return (n + len(members) - len(odd)) // 2


def _sizes(graph):
    return graph[0], len(graph[1])


def _is_pairing_search(graph, other, value):
    """Return whether a value is a pairing search that shows that two graphs are not alike."""
    waiting = [((), value)]
    while waiting:
        pairs, search = waiting.pop()
        if is_headed(search, "try", 3):
            further = _searches_tried(graph[0], pairs, search)
            if not further:
                return False
            waiting.extend(further)
        elif pairs == () or not _is_dead_end(graph, other, pairs, search):
            return False
    return True


def _searches_tried(n, pairs, search):
    """Return the list of the longer tuples of pairs, each with its search, or an empty one if these do not fit."""
    _, v, searches = search
    paired = [a for a, _ in pairs]
    others_paired = [b for _, b in pairs]
    partners = [w for w in range(n) if w not in others_paired]
    if not is_vertex(n, v) or v in paired or not is_tuple(searches, len(partners)):
        return []
    return [((*pairs, (v, w)), further) for w, further in zip(partners, searches)]


def _is_dead_end(graph, other, pairs, value):
    """Return whether a value tells rightly why the last pair cannot be."""
    v, w = pairs[-1]
    if is_headed(value, "clash", 1):
        return any([are_neighbours(graph, a, v) != are_neighbours(other, b, w) for a, b in pairs[:-1]])
    if is_headed(value, "degree", 1):
        return _degree(graph, v) != _degree(other, w)
    if is_headed(value, "near", 2) and is_integer(value[1]):
        return _many_near(graph, v, value[1]) != _many_near(other, w, value[1])
    return False


def _degree(graph, v):
    return len(neighbours(graph, v))


def _many_near(graph, v, degree):
    """Return how many neighbours of a vertex have a degree."""
    return len([u for u in neighbours(graph, v) if _degree(graph, u) == degree])
