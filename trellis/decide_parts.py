"""The papers that answer questions about modules and about bags."""

from trellis.bags import from_order
from trellis.brambles import found_bramble
from trellis.modules import is_tree, least_module, module_tree
from trellis.narrow import narrow_order
from trellis.tables import first_of, full_mask, has, mask_of, members_of, neighbour_masks


def part_paper(graph, question):
    """Return a right paper for a question about modules or bags."""
    match question[0]:
        case "cograph":
            return _cograph_paper(graph)
        case "prime":
            return _prime_paper(graph)
    return _width_paper(graph, question[1])


def _cograph_paper(graph):
    tree = module_tree(graph)
    if is_tree(graph[0], tree):
        return "yes", tree
    return "no", _bare_path(graph)


def _bare_path(graph):
    """Return a path of four vertices, neighbours only where next to each other in it, or None if there is none."""
    around = neighbour_masks(graph)
    for b, c in graph[1]:
        ends = around[c] & ~around[b] & ~(1 << b)
        for a in members_of(around[b] & ~around[c] & ~(1 << c)):
            if ends & ~around[a] != 0:
                return a, b, c, first_of(ends & ~around[a])
    return None


def _prime_paper(graph):
    n = graph[0]
    around = neighbour_masks(graph)
    rows = []
    for u in range(n):
        for v in range(u + 1, n):
            rows.append(_taken_in(around, mask_of((u, v))))
            if len(rows[-1]) < n - 2:
                return "no", least_module(graph, (u, v))
    return "yes", tuple(rows)


def _taken_in(around, mask):
    """Return as many vertices as possible, each a neighbour of some but not all of a mask and those before it."""
    row = []
    v = _parting(around, mask)
    while v is not None:
        row.append(v)
        mask |= 1 << v
        v = _parting(around, mask)
    return tuple(row)


def _parting(around, mask):
    """Return the first other vertex that is a neighbour of some but not all of a mask, or None."""
    for v, row in enumerate(around):
        if not has(mask, v) and row & mask != 0 and row & mask != mask:
            return v
    return None


def _width_paper(graph, k):
    n = graph[0]
    around = neighbour_masks(graph)
    order = narrow_order(around, full_mask(n), k)
    if order is not None:
        return "yes", from_order(graph, order)
    return "no", tuple([members_of(mask) for mask in found_bramble(around, full_mask(n), k)])
