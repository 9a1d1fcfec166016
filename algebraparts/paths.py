"""Incidence algebras of orders, and path algebras of quivers."""

from algebraparts.algebra import check_prime, check_size
from algebraparts.build import algebra_of_pairs, algebra_of_places
from algebraparts.errors import Malformed, Refused
from algebraparts.whole import is_integer, is_positive


def is_pair(value, n):
    """Return True if the value is a tuple of two of the points 0, .., n - 1, for every value."""
    if not isinstance(value, tuple) or len(value) != 2:
        return False
    return all([is_integer(point) and 0 <= point < n for point in value])


def check_quiver(p, n, pairs):
    """Raise Malformed if one of the arguments has not its form, for every value."""
    check_prime(p)
    if not is_positive(n):
        raise Malformed("the number of points is no integer from 1 on")
    if not isinstance(pairs, (list, tuple)) or not all([is_pair(pair, n) for pair in pairs]):
        raise Malformed("this is no list or tuple of pairs of points")


def has_circle(pairs):
    """Return True if arrows with these pairs have a circle."""
    # Points to which no arrow goes are removed, again and again: only circles keep points.
    # Points without arrows are left out, as there may be too many of them to be listed.
    coming = {}
    after = {}
    for first, last in pairs:
        coming[first] = coming.get(first, 0)
        coming[last] = coming.get(last, 0) + 1
        after.setdefault(first, []).append(last)
    waiting = [point for point in coming if coming[point] == 0]
    removed = 0
    while waiting:
        point = waiting.pop()
        removed += 1
        for last in after.get(point, []):
            coming[last] -= 1
            if coming[last] == 0:
                waiting.append(last)
    return removed < len(coming)


def least_order(n, pairs):
    """Return the list of the pairs (i, j) with `i` at most `j` in the least order of the pairs."""
    told = {pair: True for pair in pairs}
    above = [[i == j or (i, j) in told for j in range(n)] for i in range(n)]
    for k in range(n):
        above = [[row[j] or (row[k] and above[k][j]) for j in range(n)] for row in above]
    return [(i, j) for i in range(n) for j in range(n) if above[i][j]]


def incidence_algebra(p, n, pairs):
    """Return the incidence algebra of the least order with `i` at most `j` for each pair."""
    check_quiver(p, n, pairs)
    if has_circle([(i, j) for i, j in pairs if i != j]):
        raise Refused("order")
    # Each point makes a pair: where there are many, the pairs need not be listed.
    check_size(p, n)
    return algebra_of_pairs(p, least_order(n, pairs))


def all_paths(n, arrows):
    """Return the list of the paths, in order: tuples (first, last, indexes of the arrows)."""
    level = [(point, point, ()) for point in range(n)]
    found = []
    while level:
        found = found + level
        level = longer_paths(level, arrows)
    return found


def longer_paths(level, arrows):
    """Return the list of the paths with one arrow more than those of the level, in order."""
    out = []
    for first, last, indexes in level:
        for k, (begin, end) in enumerate(arrows):
            if begin == last:
                out.append((first, end, indexes + (k,)))
    return sorted(out, key=lambda path: path[2])


def path_algebra(p, n, arrows):
    """Return the path algebra of the quiver with `n` points and these arrows."""
    check_quiver(p, n, arrows)
    if has_circle(arrows):
        raise Refused("circle")
    # Each point and each arrow is a path: where there are many, the paths may be far too
    # many to be listed.
    check_size(p, n + len(arrows))
    paths = all_paths(n, arrows)
    places = {}
    for k, (first, _, indexes) in enumerate(paths):
        places[first, indexes] = k
    table = [[places[a, s + t] if b == c else -1 for c, _, t in paths] for a, b, s in paths]
    return algebra_of_places(p, table)
