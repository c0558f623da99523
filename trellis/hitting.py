"""The search for few vertices that hit many sets; sets are masks here."""

from trellis.tables import full_mask, has, is_within, members_of, size_of


def least_mask(sets):
    """Return the mask of the fewest vertices that hit sets none of which is empty."""
    most = 0
    found = mask_within(sets, most)
    while found is None:
        most += 1
        found = mask_within(sets, most)
    return found


def mask_within(sets, most):
    """Return the mask of at most so many vertices that hit sets none of which is empty, or None."""
    least = _least_sets(sets)
    width = max([mask.bit_length() for mask in least], default=0)
    return _search(least, full_mask(width), most)


def _least_sets(sets):
    """Return the sets that contain no other one; who hits these hits all."""
    kept = []
    for mask in sorted(sets, key=size_of):
        if not any([is_within(other, mask) for other in kept]):
            kept.append(mask)
    return kept


def _search(sets, allowed, most):
    """Return the mask of at most so many of the allowed vertices that hit the sets, or None."""
    if not sets:
        return 0
    left = [mask & allowed for mask in sets]
    if _needed_apart(left) > most or not _may_suffice(left, most):
        return None
    for v in members_of(_smallest(left)):
        rest = _search([mask for mask in left if not has(mask, v)], allowed, most - 1)
        if rest is not None:
            return rest | 1 << v
        # From here on v is not taken: what hits the sets with it was just looked for.
        allowed &= ~(1 << v)
    return None


def _needed_apart(sets):
    """Return a number of sets no two of which have a common vertex, each of which needs a vertex of its own."""
    many = 0
    used = 0
    for mask in sets:
        if mask & used == 0:
            many += 1
            used |= mask
    return many


def _may_suffice(sets, most):
    """Return whether so many vertices might hit the sets, going by how many sets each vertex is in."""
    if 0 in sets:
        return False
    many = [0] * max([mask.bit_length() for mask in sets])
    for mask in sets:
        for v in members_of(mask):
            many[v] += 1
    return sum(sorted(many, reverse=True)[:most]) >= len(sets)


def _smallest(sets):
    return min(sets, key=size_of)
