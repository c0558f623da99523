"""The search for brambles that few vertices cannot hit. Sets of vertices are masks here.

The way is that of Frederic Mazoit's proof. A flap is a connected set with at most k + 1 neighbours. Some flaps are
called free, and no care is taken of them: a flap is won if it is free, or if one of its vertices, together with its
neighbours, makes a bag, and the parts that this leaves of it are won. Flaps are made free, small ones first, as long
as the graph itself is not won. Those that cannot be made free, and contain no other such flap, touch each other: where
two do not, the two ways to win the graph, with the one and with the other made free, make up a third one, which needs
neither. And for any k + 1 vertices, some part of the rest contains one of them.
"""

from trellis.narrow import narrow_order
from trellis.tables import has, is_within, mask_of, members_of, merged, near_of, parts_of, size_of


def found_bramble(around, whole, k):
    """Return a bramble that no k + 1 vertices hit, of a graph that has no decomposition with a width of at most k."""
    wide = [part for part in parts_of(around, whole) if narrow_order(_cut_to(around, part), part, k) is None]
    rows, groups = _shrunk(_cut_to(around, wide[0]), wide[0], k)
    # So few groups that are not narrow are pairwise neighbours.
    if len(groups) == k + 2:
        return list(groups.values())
    left = mask_of(list(groups))
    return [_union_of(groups, members) for members in _bramble_of_small(rows, left, k)]


def _cut_to(around, part):
    return [row & part if has(part, v) else 0 for v, row in enumerate(around)]


def _union_of(groups, members):
    """Return the mask of all vertices of the groups of some."""
    mask = 0
    for v in members_of(members):
        mask |= groups[v]
    return mask


def _shrunk(around, whole, k):
    """Return a table and a dict of groups: neighbours are put into groups as long as the groups allow no narrow order.

    A bramble of the groups is one of the vertices, too. What fails once fails for larger groups, so that each edge is
    tried once.
    """
    rows = around
    groups = {v: 1 << v for v in members_of(whole)}
    for u in members_of(whole):
        for v in members_of(around[u] & whole):
            a, b = sorted([_group_of(groups, u), _group_of(groups, v)])
            if u < v and a != b and len(groups) > k + 2:
                fewer = {w: mask for w, mask in groups.items() if w != b}
                tried = merged(rows, a, b)
                if narrow_order(tried, mask_of(list(fewer)), k) is None:
                    fewer[a] |= groups[b]
                    rows, groups = tried, fewer
    return rows, groups


def _group_of(groups, v):
    """Return the number of the group that contains a vertex."""
    return [w for w, mask in groups.items() if has(mask, v)][0]


def _bramble_of_small(around, whole, k):
    """Return the list of the sets of a bramble of a connected graph."""
    ways = {flap: _ways_to_win(around, flap, k) for flap in _flaps(around, whole, k + 1)}
    won = _won(ways, {}, 0)
    bramble = []
    for flap in ways:
        if flap not in won and not any([is_within(other, flap) for other in bramble]):
            tried = _won(ways, won, flap)
            if whole in tried:
                bramble.append(flap)
            else:
                won = tried
    return bramble


def _flaps(around, whole, most):
    """Return the list of the connected sets with at most so many neighbours, small ones first."""
    found = {}
    taken_out = [0]
    for _ in range(most + 1):
        for mask in taken_out:
            for part in parts_of(around, whole & ~mask):
                found[part] = True
        taken_out = [mask | 1 << v for mask in taken_out for v in members_of(whole) if 1 << v > mask]
    return sorted(found, key=size_of)


def _ways_to_win(around, flap, k):
    """Return a list with the list of the parts that each vertex of a flap leaves, if it may make a bag."""
    if size_of(near_of(around, flap) & ~flap) > k:
        return []
    return [parts_of(around, flap & ~(1 << v)) for v in members_of(flap)]


def _won(ways, won, fresh):
    """Return the dict of the flaps that are won if those of a dict and a further one are.

    The ways of smaller flaps stand first, and only flaps that contain the further one can be new.
    """
    found = {flap: True for flap in won}
    found[fresh] = True
    for flap, choices in ways.items():
        if is_within(fresh, flap) and flap not in found:
            if any([all([part in found for part in parts]) for parts in choices]):
                found[flap] = True
    return found
