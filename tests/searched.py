"""The document's words on all runs, by plain searches over the states of tests/model.py.

Nothing here imports the package.
"""

import itertools

import model

TORN, AWAY, LOST = ("torn",), ("away",), ("lost",)


def all_steps(program):
    return model.call_steps(program) + model.door_steps(program)


def steps_of(program, calls, pins=()):
    """The steps of these calls, pairs, and of all doors, ascending, without the closes of the pins."""
    return sorted(("call",) + tuple(call) for call in calls) + [
        step for step in model.door_steps(program) if step[0] == "open" or step[1] not in pins]


def state_behind(program, steps):
    state = model.start(program)
    for step in steps:
        _, state = model.step_from(program, state, step)
    return state


def least(runs):
    return min(runs, key=lambda run: (len(run), run), default=None)


def torn(program):
    """All triples (name, i, target), by all states with the slot of one use alone."""
    found = set()
    for _, name, i in model.call_steps(program):
        steps = steps_of(program, [(name, i)])
        for state in model.states(program, steps):
            slot = model.slot_in(state, name, i)
            if slot and slot[0] == "bound":
                behind = [model.step_from(program, state, step)[1] for step in steps]
                if any(model.slot_in(other, name, i) == TORN for other in behind):
                    found.add((name, i, slot[1]))
    return sorted(found)


def tearing_run(program, name, i, pins=(), others=()):
    """The least shortest run; others are calls that are made as well."""
    steps = steps_of(program, {(name, i), *others}, pins)
    for state, run in model.states(program, steps).items():
        if model.called(program, state, name, i)[0] == TORN:
            return run + (("call", name, i),)
    return None


def fewest_pins(program, calls):
    for pins in model.subsets(range(len(program[2]))):
        if all(tearing_run(program, name, i, pins) is None for name, i in calls):
            return pins


def ahead(program):
    """The pairs of doors of which the first one must be closed ahead of the second one."""
    first, doors = model.first_of(program), range(len(program[2]))
    rows = [model.door_row(program, k) for k in doors]
    return {(one, other) for name, _, target in torn(program) if name not in first for one in doors for other in doors
            if name in rows[one] and target not in rows[one] and target in rows[other]}


def tears_none(program, order, steps):
    """Whether shutting all doors in this order tears no slot outside of the first row, whatever these steps did."""
    first = model.first_of(program)
    for state in model.states(program, steps):
        torn_slots = shut_all(program, state, order)
        if any(name not in first for name, _ in torn_slots):
            return False
    return True


def shut_all(program, state, order):
    """The slots (name, i) that become torn while these doors are shut."""
    found = set()
    for k in order:
        while state[0][k]:
            before = {slot[:2] for slot in state[4] if slot[2] == TORN}
            _, state = model.closed(program, state, k)
            found |= {slot[:2] for slot in state[4] if slot[2] == TORN} - before
    return sorted(found)


def unlike_run(program, one, other):
    """The least shortest run that these states answer unlike, by all pairs of states; None if there is none."""
    steps = all_steps(program)
    runs = {(one, other): ()}
    news = list(runs)
    while news:
        reached = []
        for pair in news:
            behind = [[model.step_from(program, state, step) for state in pair] for step in steps]
            for step, ((told, first), (answer, second)) in zip(steps, behind):
                if told != answer:
                    return runs[pair] + (step,)
                if first != second and (first, second) not in runs:
                    runs[(first, second)] = runs[pair] + (step,)
                    reached.append((first, second))
        news = reached
    return None


def bases(program):
    """The pairs (state, run) of all bases with counts 0 and 1, the shortest runs first."""
    return [(state, run) for state, run in model.states(program,
                                                        model.door_steps(program)).items() if 2 not in state[0]]


def in_lists(pairs, same):
    """The second parts of the pairs, in lists of those with first parts that are the same."""
    found = []
    for state, part in pairs:
        for group in found:
            if same(group[0][0], state):
                group.append((state, part))
                break
        else:
            found.append([(state, part)])
    return [[part for _, part in group] for group in found]


def told(program, name, i, doors):
    """All answers but away of this call in runs that open these doors alone."""
    steps = [("call", name, i)] + [(word, k) for word in ("close", "open") for k in doors]
    return sorted({model.called(program, state, name, i)[0] for state in model.states(program, steps)} - {AWAY})


def shown_by(program, k, calls, longest=None):
    """The least shortest run of these calls and all doors that shows the door, by all pairs of states."""
    steps = steps_of(program, calls)
    runs = {(model.start(program),) * 2: ()}
    news = list(runs)
    while news and (longest is None or len(runs[news[0]]) < longest):
        reached = []
        for pair in news:
            for step in steps:
                answer, state = model.step_from(program, pair[0], step)
                rest = (None, pair[1])
                if step[0] == "call" or step[1] != k:
                    rest = model.step_from(program, pair[1], step)
                if step[0] == "call" and rest[0] != AWAY and rest[0] != answer:
                    return runs[pair] + (step,)
                other = (state, rest[1])
                if other not in runs:
                    runs[other] = runs[pair] + (step,)
                    reached.append(other)
        news = reached
    return None


def may(program, state, name, i):
    """All answers but away of the next call behind some further opens and closes."""
    found = {state}
    news = [state]
    while news:
        reached = []
        for one in news:
            for step in model.door_steps(program):
                _, other = model.step_from(program, one, step)
                if other not in found:
                    found.add(other)
                    reached.append(other)
        news = reached
    return sorted({model.called(program, one, name, i)[0] for one in found} - {AWAY})


def preloads(program):
    """All preloads, by their lengths, then by Python's comparison."""
    names = sorted(lib[0] for lib in program[0][1:])
    return [preload for many in range(len(names) + 1) for preload in itertools.permutations(names, many)]
