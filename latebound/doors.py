"""Doors: which of them answers need, and which change the calls of others."""

from latebound.data import is_run
from latebound.lenses import Lens, all_lenses
from latebound.nodes import called, moves_of, reply
from latebound.process import TORN
from latebound.rows import check_doors, use_of
from latebound.runs import AWAY, run
from latebound.searches import fewest, shortest_of, way_apart
from latebound.torn import answers_seen, targets_lost
from latebound.tuples import frozen


def told_with(program, name, i, doors):
    """All that this call can tell in RUNs that open these doors alone, ascending."""
    use_of(program, name, i)
    check_doors(program, doors)
    return answers_with(program, name, i, doors)


def fewest_doors(program, name, i, answer):
    """The fewest doors with which this call can tell the answer, ascending; None if it cannot with all."""
    use_of(program, name, i)
    wanted = frozen(answer)
    found = fewest(len(program[2]), lambda doors: wanted in answers_with(program, name, i, doors))
    return None if found is None else list(found)


def needed(program, name, i, answer):
    """The doors without which, with all others, this call cannot tell the answer; None if it cannot with all."""
    use_of(program, name, i)
    wanted = frozen(answer)
    doors = list(range(len(program[2])))
    if wanted not in answers_with(program, name, i, doors):
        return None
    others = {k: [other for other in doors if other != k] for k in doors}
    return [k for k in doors if wanted not in answers_with(program, name, i, others[k])]


def shown_by(program, k):
    """The shortest RUN of which the last STEP shows door k; None if the door is idle."""
    check_doors(program, [k])

    def search(lens, most):
        if k not in lens.doors:
            return None
        node = (lens.start, None)
        return way_apart(pair_of(node, node), moves_beside(lens, k), shows(lens), most)

    return shortest_of(all_lenses(program), search)


def shows_door(program, k, thing):
    """Whether thing is a RUN of which the last STEP is a call that shows door k."""
    check_doors(program, [k])
    if not is_run(program, thing) or len(thing) == 0 or thing[-1][0] != "call":
        return False
    rest = [step for step in thing if step[0] == "call" or step[1] != k]
    told = run(program, rest)[-1]
    return told != AWAY and told != run(program, thing)[-1]


def idle_doors(program):
    """The idle doors, ascending."""
    return [k for k in range(len(program[2])) if shown_by(program, k) is None]


def answers_with(program, name, i, doors):
    """What the call can tell in RUNs that open these doors alone, ascending."""
    libs, preload, every = program
    lens = Lens((libs, preload, [every[k] for k in doors]), name, i)
    found = {answer: True for answer, _ in answers_seen(lens)}
    if targets_lost(lens):
        found[TORN] = True
    return sorted(found)


def moves_beside(lens, k):
    """What tells the moves of a pair of nodes, in a RUN and in its rest beside door k."""
    def moves(pair):
        (_, one), (_, other) = pair
        found = [(lens.step, pair_of(called(lens, one), called(lens, other)))]
        # the other doors have the same counts in both: so in all rests beside one node the LIB is there, or away
        behind = dict(moves_of(lens, other))
        for step, node in moves_of(lens, one):
            found.append((step, pair_of(node, other if step[1] == k else behind[step])))
        return found

    return moves


def shows(lens):
    """What tells whether the call shows the door in a pair of nodes, in a RUN and in its rest."""
    def apart(pair):
        (_, one), (_, other) = pair
        told = reply(lens, other)
        return told != AWAY and told != reply(lens, one)

    return apart


def pair_of(one, other):
    """The pair of a node in a RUN and one in its rest: they have unlike moves, so they are not to be mixed up."""
    return ("run", one), ("rest", other)
