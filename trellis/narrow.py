"""The search for orders that give narrow decompositions. Sets of vertices are masks here."""

from trellis.tables import has, is_clique, members_of, merged, near_of, parts_of, size_of


def narrow_order(around, whole, k):
    """Return an order of the vertices of a mask that gives a decomposition with a width of at most k, or None.

    The table tells the masks of neighbours, none of which lies outside of the whole mask.
    """
    first, rows, left = _begun(around, whole, k)
    if _is_tight(rows, left, k):
        return None
    rest = _greedy_order(rows, left, k)
    if rest is None:
        rest = NarrowSearch(rows, k).order_of_all(parts_of(rows, left))
    return None if rest is None else first + rest


def _begun(around, whole, k):
    """Return the beginning of an order that can be narrow if any can, the table behind it, and the mask of the rest."""
    rows = around
    left = whole
    order = ()
    v = _harmless(rows, left, k)
    while v is not None:
        order = (*order, v)
        rows = taken_out(rows, v)
        left &= ~(1 << v)
        v = _harmless(rows, left, k)
    return order, rows, left


def _harmless(rows, left, k):
    """Return a vertex with at most k neighbours, all of which but at most one form a clique, or None.

    To take it out joins the one with the others, as if both were one vertex: this makes no order wider.
    """
    for v in members_of(left):
        near = rows[v]
        if size_of(near) <= k and (is_clique(rows, near) or _is_nearly_clique(rows, near)):
            return v
    return None


def _is_nearly_clique(rows, mask):
    return any([is_clique(rows, mask & ~(1 << v)) for v in members_of(mask)])


def taken_out(rows, v):
    """Return the table without a vertex, once all its neighbours have been joined."""
    near = rows[v]
    found = []
    for u, row in enumerate(rows):
        found.append((row | near) & ~(1 << u) & ~(1 << v) if has(near, u) else row)
    found[v] = 0
    return found


def _is_tight(around, whole, k):
    """Return whether neighbours can be merged until each vertex has more than k neighbours, so that no bag ends."""
    rows = around
    left = whole
    while left != 0:
        v = _lightest(rows, left)
        if size_of(rows[v]) > k:
            return True
        if rows[v] != 0:
            rows = merged(rows, _lightest(rows, rows[v]), v)
        left &= ~(1 << v)
    return False


def _greedy_order(around, whole, k):
    """Return an order in which each vertex has the fewest neighbours of those left, or None if it is not narrow."""
    rows = around
    left = whole
    order = ()
    while left != 0:
        v = _lightest(rows, left)
        if size_of(rows[v]) > k:
            return None
        order = (*order, v)
        rows = taken_out(rows, v)
        left &= ~(1 << v)
    return order


def _lightest(rows, members):
    """Return a vertex of a mask that has the fewest neighbours."""
    return min(members_of(members), key=lambda v: size_of(rows[v]))


class NarrowSearch:
    """A search through the connected parts that are left when few vertices are taken out, each of them once."""

    def __init__(self, around, k):
        self.around = around
        self.k = k
        self.known = {}

    def order_of_all(self, parts):
        """Return the orders of several parts one behind the other, or None if one of them has none."""
        order = ()
        for part in parts:
            found = self.order_of(part)
            if found is None:
                return None
            order += found
        return order

    def order_of(self, part):
        """Return an order of a connected part, or None if there is none that is narrow.

        Each vertex has at most k others behind it and around the part, in the graph to which edges have been added.
        """
        if part not in self.known:
            self.known[part] = self.searched_order(part)
        return self.known[part]

    def searched_order(self, part):
        """Return an order of a part that is not known yet, or None."""
        border = near_of(self.around, part) & ~part
        if size_of(border | part) <= self.k + 1:
            return members_of(part)
        if size_of(border) > self.k:
            return None
        for v in members_of(part):
            order = self.order_of_all(parts_of(self.around, part & ~(1 << v)))
            if order is not None:
                return (*order, v)
        return None
