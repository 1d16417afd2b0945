"""Stands that are alike: no further run tells them apart."""

from itertools import permutations

from latebound.data import is_run
from latebound.layout import Layout, first_base, opened_base
from latebound.lenses import all_lenses
from latebound.nodes import moves_of, node_of, reply
from latebound.process import MOST_OPEN
from latebound.rows import check_doors
from latebound.runs import process_behind, told
from latebound.searches import runs_from, shortest_of, way_apart
from latebound.walks import bases


def alike(program, one, other):
    """None if the stands behind these RUNs are alike, otherwise the shortest RUN that is answered unlike from them."""
    first, second = process_behind(program, one), process_behind(program, other)
    step = unlike_door(first.counts(), second.counts())

    def search(lens, most):
        pair = (node_of(lens, first), node_of(lens, second))
        # with unlike counts one step is enough
        return way_apart(pair, moves_of_pair(lens), are_unlike(lens), most if step is None else 0)

    # a call is less than an open or a close
    found = shortest_of(all_lenses(program), search)
    return (step,) if found is None and step is not None else found


def shows_unlike(program, one, other, thing):
    """Whether thing is a RUN that is answered alike from the stands behind these RUNs, but for its last STEP."""
    if not is_run(program, thing) or len(thing) == 0:
        return False
    first, second = process_behind(program, one), process_behind(program, other)
    same = [told(first, step) == told(second, step) for step in thing]
    return all(same[:-1]) and not same[-1]


def classes(program):
    """The shortest RUNs to all bases, in lists of those that are alike."""
    found = bases(program)
    marks = marks_of(looks_of(program), [base for base, _ in found])
    return in_lists([(marks[at], way) for at, (_, way) in enumerate(found)])


def orders(program, doors):
    """All orders in which these doors can be opened, in lists of those behind which the stands are alike."""
    check_doors(program, doors)
    layout = Layout(program)
    chosen = list(doors)
    found = list(permutations(chosen))
    marks = marks_of(looks_of(program), [base_behind(layout, first_base(layout), order) for order in found])
    return in_lists(list(zip(marks, found)))


def commute(program, first, second):
    """None if from all bases with both doors shut, opening them in either order leads to stands that are alike.

    Otherwise the shortest RUN to a base from which it does not, and what tells the two stands apart.
    """
    check_doors(program, [first, second])
    if first == second:
        return None
    ways = [way_to_unlike(lens, kinds, first, second) for lens, kinds in looks_of(program)]
    ways = [way for way in ways if way is not None]
    if ways == []:
        return None
    least = min(ways, key=lambda way: (len(way), way))
    opens = (("open", first), ("open", second))
    return least, alike(program, least + opens, least + opens[::-1])


def unlike_door(one, other):
    """The least STEP of a door that is answered unlike with these counts; None if there is none."""
    for word, count in (("close", 0), ("open", MOST_OPEN)):
        for k in range(len(one)):
            if (one[k] == count) != (other[k] == count):
                return word, k
    return None


def moves_of_pair(lens):
    """What tells the moves of a pair of nodes with the same counts."""
    def moves(pair):
        one, other = moves_of(lens, pair[0]), moves_of(lens, pair[1])
        return [(one[at][0], (one[at][1], other[at][1])) for at in range(len(one))]

    return moves


def are_unlike(lens):
    """What tells whether the call is answered unlike in the nodes of a pair."""
    return lambda pair: reply(lens, pair[0]) != reply(lens, pair[1])


def base_behind(layout, base, doors):
    """The base behind opening these doors."""
    for k in doors:
        base = opened_base(layout, base, k)
    return base


def way_to_unlike(lens, kinds, first, second):
    """The shortest run to a base with both doors shut from which the order of opening them matters for the call."""
    if first not in lens.doors or second not in lens.doors:
        return None
    for base, way in runs_of(lens).items():
        if base[0][first] == 0 and base[0][second] == 0:
            one = lens.seen(base_behind(lens.layout, base, (first, second)))
            other = lens.seen(base_behind(lens.layout, base, (second, first)))
            if kinds[one] != kinds[other]:
                return way
    return None


def in_lists(pairs):
    """The second parts of the pairs, in a list for each first part."""
    found = {}
    for mark, part in pairs:
        found.setdefault(mark, []).append(part)
    return list(found.values())


def looks_of(program):
    """The pairs (lens, kinds) of all uses."""
    return [(lens, kinds_of(lens)) for lens in all_lenses(program)]


def runs_of(lens):
    """A dict of all bases that the lens sees, each with the shortest run to it."""
    return runs_from(lens.start, lambda base: lens.moves(base))


def kinds_of(lens):
    """A dict of a number for each base that the lens sees, the same one just if the call never tells them apart."""
    found = list(runs_of(lens))
    numbers = {base: at for at, base in enumerate(found)}
    behind = [[numbers[other] for _, other in lens.moves(base)] for base in found]
    kinds = numbered([(base[0], lens.answer(base)) for base in found])
    many = 0
    # each round tells apart what one step more tells apart
    while many <= max(kinds):
        many = max(kinds) + 1
        kinds = numbered([(kinds[at], tuple([kinds[number] for number in behind[at]])) for at in range(len(found))])
    return {base: kinds[numbers[base]] for base in found}


def numbered(keys):
    """A list of numbers from 0, the same ones for keys that are equal."""
    numbers = {}
    for key in keys:
        numbers.setdefault(key, len(numbers))
    return [numbers[key] for key in keys]


def marks_of(looks, found):
    """A list of marks of the bases that were found, equal just for those that are alike."""
    parts = {}
    marks = []
    for base in found:
        counts, order, public, deep = base
        if (order, public) not in parts:
            # of deep it only matters whether the caller is
            parts[(order, public)] = [(lens.name, kind(lens, kinds, base, ()), kind(lens, kinds, base, (lens.name,)))
                                      for lens, kinds in looks]
        marks.append((counts, tuple([sunk if name in deep else plain for name, plain, sunk in parts[(order, public)]])))
    return marks


def kind(lens, kinds, base, deep):
    """The number of the base with these deep LIBs; None if the lens never sees that."""
    return kinds.get(lens.seen(base[:3] + (deep,)))
