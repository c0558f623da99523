"""Values that are nested in any depth."""


def with_numbers(value, change):
    """Return a value in which each integer is replaced by what a function makes of it."""
    done = []
    # What is still to be done, the next one last: a value and -1, or a tuple and the number of its items, all done.
    waiting = [(value, -1)]
    while waiting:
        item, many = waiting.pop()
        if many >= 0:
            at = len(done) - many
            done[at:] = [tuple(done[at:])]
        elif isinstance(item, tuple):
            waiting.append((item, len(item)))
            waiting.extend([(part, -1) for part in item[::-1]])
        elif isinstance(item, int):
            done.append(change(item))
        else:
            done.append(item)
    return done[0]
