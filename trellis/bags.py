"""Trees of bags: decompositions, and brambles, which tell how wide a decomposition must be."""

from trellis.forms import is_ascending, is_integer, is_set, is_tuple
from trellis.graphs import is_connected
from trellis.hitting import least_mask
from trellis.tables import is_within, mask_of, members_of, near_of, neighbour_masks
from trellis.walks import is_spanning_tree


def is_decomposition(graph, value):
    """Return whether a value, whatever it is, is a decomposition of a graph."""
    if not is_tuple(value, 2):
        return False
    bags, links = value
    if not _are_bags(graph[0], bags) or not _are_links(len(bags), links):
        return False
    return _holds_edges(graph, bags) and all([_is_together(v, bags, links) for v in range(graph[0])])


def _are_bags(n, value):
    return isinstance(value, tuple) and value != () and all(is_set(n, bag) and bag != () for bag in value)


def _are_links(many, value):
    """Return whether a value is a tuple of pairs that join so many bags to a tree."""
    if not isinstance(value, tuple) or not all(_is_link(many, link) for link in value):
        return False
    return is_ascending(value) and is_spanning_tree(many, value)


def _is_link(many, value):
    if not is_tuple(value, 2) or not is_integer(value[0]) or not is_integer(value[1]):
        return False
    return 0 <= value[0] < value[1] < many


def _holds_edges(graph, bags):
    masks = [mask_of(bag) for bag in bags]
    ends = [mask_of(edge) for edge in graph[1]]
    return all([any([is_within(pair, mask) for mask in masks]) for pair in ends])


def _is_together(v, bags, links):
    """Return whether a vertex is in some bag, and the links between the bags that contain it connect these."""
    many = len([bag for bag in bags if v in bag])
    joining = [link for link in links if v in bags[link[0]] and v in bags[link[1]]]
    # Links of a tree contain no cycle: they connect some bags exactly if there is one link less than there are bags.
    return len(joining) == many - 1


def width_of(decomposition):
    """Return the number of vertices of the largest bag minus 1."""
    return max([len(bag) for bag in decomposition[0]]) - 1


def from_order(graph, order):
    """Return the decomposition that follows from an order of the vertices."""
    place = {v: at for at, v in enumerate(order)}
    bags = []
    links = []
    for at, behind in enumerate(_rows_behind(graph, order, place)):
        bags.append(tuple(sorted([order[at], *behind])))
        if behind:
            links.append((at, place[behind[0]]))
        elif at + 1 < len(order):
            links.append((at, at + 1))
    return tuple(bags), tuple(links)


def _rows_behind(graph, order, place):
    """Return the neighbours behind each vertex of an order, first ones first, where such neighbours get joined."""
    around = neighbour_masks(graph)
    rows = []
    left = mask_of(order)
    for v in order:
        left &= ~(1 << v)
        behind = around[v] & left
        for u in members_of(behind):
            # This makes u its own neighbour, but u is not among those left when its turn comes.
            around[u] |= behind
        rows.append(sorted(members_of(behind), key=lambda u: place[u]))
    return rows


def order_width(graph, order):
    """Return the width of the decomposition that follows from an order of the vertices."""
    return width_of(from_order(graph, order))


def made_small(graph, decomposition):
    """Return a small decomposition of the same width whose bags are some of those of a decomposition."""
    bags, links = decomposition
    spare = _spare_link(bags, links)
    while spare is not None:
        bags, links = _merged(bags, links, spare)
        spare = _spare_link(bags, links)
    return bags, links


def _spare_link(bags, links):
    """Return the indexes of two linked bags, the first of which is contained in the second one, or None."""
    masks = [mask_of(bag) for bag in bags]
    for i, j in links:
        if is_within(masks[i], masks[j]):
            return i, j
        if is_within(masks[j], masks[i]):
            return j, i
    return None


def _merged(bags, links, pair):
    """Return bags and links without the first bag of a pair; what was linked to it is linked to the second one."""
    spare, kept = pair
    moved = [_moved(at, spare, kept) for at in range(len(bags))]
    further = [sorted([moved[i], moved[j]]) for i, j in links]
    left = [bag for at, bag in enumerate(bags) if at != spare]
    return tuple(left), tuple(sorted([(i, j) for i, j in further if i != j]))


def _moved(at, spare, kept):
    """Return the index of a bag once a spare bag is left out, and the kept one stands for it."""
    stays = kept if at == spare else at
    return stays - 1 if stays > spare else stays


def meets(decomposition, link):
    """Return the set of the vertices that both bags of a link contain."""
    bags = decomposition[0]
    return tuple([v for v in bags[link[0]] if v in bags[link[1]]])


def touch(graph, first, second):
    """Return whether two sets have a common vertex or an edge between them."""
    other = mask_of(second)
    return mask_of(first) & (other | near_of(neighbour_masks(graph), other)) != 0


def hits(members, bramble):
    """Return whether a set has a vertex in common with each set of a bramble."""
    mask = mask_of(members)
    return all([mask & mask_of(other) != 0 for other in bramble])


def least_hitting(graph, bramble):
    """Return a set with the fewest vertices that hits a bramble."""
    return members_of(least_mask([mask_of(members) for members in bramble]))


def is_bramble(graph, value):
    """Return whether a value, whatever it is, is a bramble of a graph."""
    n = graph[0]
    if not isinstance(value, tuple) or value == () or not all(is_set(n, members) for members in value):
        return False
    if not all([is_connected(graph, members) for members in value]):
        return False
    around = neighbour_masks(graph)
    masks = [mask_of(members) for members in value]
    wider = [mask | near_of(around, mask) for mask in masks]
    return all([masks[i] & wider[j] != 0 for i in range(len(masks)) for j in range(i)])
