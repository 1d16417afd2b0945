"""Searches from a node along moves, the shortest runs first.

The moves of a node are the pairs (step, node) of what its steps lead to, by the steps, ascending. So each run that is
found is the least of the shortest ones.
"""

from itertools import combinations


def runs_from(start, moves):
    """A dict of all nodes that the moves lead to, each with the shortest run to it, the shortest runs first."""
    runs = {start: ()}
    found = [start]
    at = 0
    # the runs are made longer in their own order, by the least step first: so the first to reach a node is the least
    while at < len(found):
        here = found[at]
        for step, node in moves(here):
            if node not in runs:
                runs[node] = runs[here] + (step,)
                found.append(node)
        at += 1
    return runs


def way_to(start, moves, wanted):
    """The shortest run to a node that is wanted; None if there is none."""
    runs = runs_from(start, moves)
    for node in runs:
        if wanted(node):
            return runs[node]
    return None


def way_apart(pair, moves, apart, most=None):
    """The shortest run, of at most so many steps, from this pair of nodes to one that is apart; None if there is none.

    The moves are those of pairs, but what becomes of a node, and what it tells, hangs on this node alone; a pair is
    apart if its nodes tell unlike things. So a pair is left out if its nodes hang together by pairs that were found
    ahead of it: what sets it apart sets one of those apart, too, and to that one leads a lesser run.
    """
    if apart(pair):
        return ()
    above = {}
    joins(above, pair)
    found = [(pair, ())]
    at = 0
    while at < len(found) and (most is None or len(found[at][1]) < most):
        here, run = found[at]
        for step, other in moves(here):
            if joins(above, other):
                if apart(other):
                    return run + (step,)
                found.append((other, run + (step,)))
        at += 1
    return None


def shortest_of(lenses, search):
    """The shortest run with the call of one of the lenses at its end; None if there is none.

    search(lens, most) is the shortest run of at most so many steps, any if None, to go ahead of this call.
    """
    found = None
    for lens in lenses:
        way = search(lens, None if found is None else len(found) - 1)
        if way is not None:
            longer = way + (lens.step,)
            if found is None or (len(longer), longer) < (len(found), found):
                found = longer
    return found


def joins(above, pair):
    """Lets the nodes of the pair hang together; whether they did not yet."""
    one, other = top(above, pair[0]), top(above, pair[1])
    if one == other:
        return False
    above[one] = other
    return True


def top(above, node):
    """The node that stands for all those that hang together with this one."""
    found = node
    while found in above:
        found = above[found]
    # the next search along here is short then
    while node != found:
        above[node], node = found, above[node]
    return found


def fewest(many, fits):
    """The shortest ascending tuple of numbers below many that fits, of several the least; None if there is none."""
    for size in range(many + 1):
        for chosen in combinations(range(many), size):
            if fits(chosen):
                return chosen
    return None
