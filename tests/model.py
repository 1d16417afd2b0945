"""The document's words on programs that run, once more and as plainly as can be, and searches over all that can happen.

A state is a tuple (counts, open order, public, deep, slots), slots a sorted tuple of triples (name, i, answer).
Nothing here imports the package.
"""

import functools
import itertools
import random


def lib_of(program, name):
    return {lib[0]: lib for lib in program[0]}[name]


@functools.lru_cache(maxsize=None)
def row_of(program, names):
    found = list(dict.fromkeys(names))
    for name in found:
        found += [need for need in lib_of(program, name)[1] if need not in found]
    return tuple(found)


def first_of(program):
    return row_of(program, (program[0][0][0],) + tuple(program[1]))


def door_row(program, k):
    return row_of(program, (program[2][k][0],))


def start(program):
    return ((0,) * len(program[2]), (), first_of(program), (), ())


def there_in(program, state):
    return set(first_of(program)).union(*[door_row(program, k) for k in state[1]])


def given(program, name, use):
    versions = {version for symbol, version in lib_of(program, name)[2] if symbol == use[0]}
    if use[1] in versions:
        return use[1]
    serving = sorted(version for version in versions if version == "" or use[1] == "")
    return serving[0] if serving else None


def looked(program, state, name):
    _, order, public, deep, _ = state
    rows = [other for k in order if name in door_row(program, k) for other in door_row(program, k)]
    if name in first_of(program):
        rows = []
    return list(dict.fromkeys(rows + list(public) if name in deep else list(public) + rows))


def meant(program, state, name, i):
    use = lib_of(program, name)[3][i]
    for other in looked(program, state, name):
        version = given(program, other, use)
        if version is not None:
            return ("bound", other, version)
    return ("nobody",) if use[2] else ("lost",)


def slot_in(state, name, i):
    return {(row[0], row[1]): row[2] for row in state[4]}.get((name, i))


def opened(program, state, k):
    counts, order, public, deep, slots = state
    if counts[k] == 2:
        return ("full",), state
    counts = counts[:k] + (counts[k] + 1,) + counts[k + 1:]
    if counts[k] == 1:
        mode, row, there = program[2][k][1], door_row(program, k), there_in(program, state)
        order += (k,)
        if mode == "deep":
            deep = tuple(sorted(set(deep) | (set(row) - there)))
        if mode == "global":
            public = tuple(dict.fromkeys(public + row))
    return ("opened",), (counts, order, public, deep, slots)


def closed(program, state, k):
    counts, order, public, deep, slots = state
    if counts[k] == 0:
        return ("shut",), state
    counts = counts[:k] + (counts[k] - 1,) + counts[k + 1:]
    if counts[k] == 0:
        order = tuple(door for door in order if door != k)
        there = there_in(program, (counts, order))
        public, deep = (tuple(name for name in names if name in there) for names in (public, deep))
        left = []
        for name, i, answer in slots:
            if name in there:
                gone = answer[0] == "bound" and answer[1] not in there
                left.append((name, i, ("torn",) if gone else answer))
        slots = tuple(left)
    return ("closed",), (counts, order, public, deep, slots)


def called(program, state, name, i):
    if name not in there_in(program, state):
        return ("away",), state
    kept = slot_in(state, name, i)
    if kept:
        return kept, state
    answer = meant(program, state, name, i)
    if answer == ("lost",):
        return answer, state
    return answer, state[:4] + (tuple(sorted(state[4] + ((name, i, answer),))),)


def step_from(program, state, step):
    """The answer to the step, and the state behind it."""
    return {"open": opened, "close": closed, "call": called}[step[0]](program, state, *step[1:])


def door_steps(program):
    return [(word, k) for word in ("close", "open") for k in range(len(program[2]))]


def call_steps(program):
    return sorted(("call", lib[0], i) for lib in program[0] for i in range(len(lib[3])))


def states(program, steps, longest=None):
    """All states that these steps, which must ascend, lead to, each with the least shortest run to it."""
    runs = {start(program): ()}
    news = list(runs)
    while news and (longest is None or len(runs[news[0]]) < longest):
        reached = []
        for state in news:
            for step in steps:
                _, other = step_from(program, state, step)
                if other not in runs:
                    runs[other] = runs[state] + (step,)
                    reached.append(other)
        news = reached
    return runs


def answers(program):
    """For each call a dict of all its answers in all runs, its slot being unbound, each with the least shortest run."""
    found = {step[1:]: {} for step in call_steps(program)}
    for state, run in states(program, call_steps(program) + door_steps(program)).items():
        there = there_in(program, state)
        for name, i in found:
            if name in there and slot_in(state, name, i) is None:
                answer, _ = called(program, state, name, i)
                found[(name, i)].setdefault(answer, run + (("call", name, i),))
    return found


def answers_in_short_runs(program, longest):
    """The same by all runs up to this length, one by one."""
    steps = call_steps(program) + door_steps(program)
    found = {step[1:]: {} for step in call_steps(program)}
    for many in range(longest):
        for run in itertools.product(steps, repeat=many):
            state = start(program)
            for step in run:
                _, state = step_from(program, state, step)
            for step in call_steps(program):
                name, i = step[1:]
                if name in there_in(program, state) and slot_in(state, name, i) is None:
                    found[(name, i)].setdefault(called(program, state, name, i)[0], run + (step,))
    return found


def looked_by_all(program):
    """For each call all that its library looks along in some run, its slot being unbound."""
    found = {step[1:]: set() for step in call_steps(program)}
    for state in states(program, door_steps(program)):
        there = there_in(program, state)
        for name, i in found:
            if name in there:
                found[(name, i)].add(tuple(looked(program, state, name)))
    return found


def answers_looked(program, name, i, ways):
    """The answers to this call if its library looks along these ways; the program may be stripped."""
    use = lib_of(program, name)[3][i]
    found = set()
    for way in ways:
        givers = [other for other in way if given(program, other, use) is not None]
        unbound = ("nobody",) if use[2] else ("lost",)
        found.add(("bound", givers[0], given(program, givers[0], use)) if givers else unbound)
    return found


def all_definitions(program):
    return sorted((lib[0], symbol, version) for lib in program[0] for symbol, version in lib[2])


def stripped(program, gone):
    """The program without these definitions."""
    libs = tuple((name, needs, tuple(one for one in defs if (name,) + one not in gone), uses)
                 for name, needs, defs, uses in program[0])
    return (libs,) + tuple(program[1:])


def subsets(items):
    """All ascending lists of these ascending items, by their lengths, then by Python's comparison."""
    for many in range(len(items) + 1):
        for chosen in itertools.combinations(items, many):
            yield list(chosen)


def random_program(seed, libs=4, doors=3, defs=2, uses=2, symbols="fg", versions=("", "a", "b")):
    """A program with at most so many of each; the same one for the same numbers."""
    dice = random.Random(seed)
    names = ["main", "b", "c", "a", "e", "d", "h", "g"][:libs]
    pairs = [(symbol, version) for symbol in symbols for version in versions]
    made = []
    for name in names:
        others = [other for other in names[1:] if other != name]
        needs = dice.sample(others, min(len(others), dice.choice((0, 0, 1, 2))))
        own = sorted(dice.sample(pairs, dice.randint(0, min(defs, len(pairs)))))
        used = sorted(dice.sample(pairs, dice.randint(0, min(uses, len(pairs)))))
        weak = tuple(pair + (dice.random() < 0.4,) for pair in used)
        made.append((name, tuple(needs), tuple(own), weak))
    preload = dice.sample(names[1:], dice.choice((0, 0, 0, min(1, libs - 1))))
    every = [(name, mode) for name in names[1:] for mode in ("global", "global", "local", "deep")]
    chosen = list(dict.fromkeys(dice.sample(every, min(doors, len(every)))))
    return tuple(made), tuple(preload), tuple(chosen)


def random_steps(program, seed, many):
    """So many steps, also such as are refused or away; the same ones for the same numbers."""
    dice = random.Random(seed)
    calls, doors = call_steps(program), door_steps(program)
    return tuple(dice.choice(calls if calls and dice.random() < 0.5 else doors) for _ in range(many))


def lively_program(seed, libs=4, doors=3, symbols="fg", versions=("", "", "a")):
    """A program in which much hangs on the doors: main needs little, and most uses are served by several libraries."""
    dice = random.Random(1000 + seed)
    names = ["main", "c", "a", "b", "e", "d", "h", "g"][:libs]
    pairs = sorted({(symbol, version) for symbol in symbols for version in versions})
    made = []
    for at, name in enumerate(names):
        others = [other for other in names[1:] if other != name]
        many = dice.choice((0, 0, 1, 1, 2)) if at else dice.choice((0, 0, 0, 0, 0, 0, 1))
        needs = dice.sample(others, min(len(others), many))
        own = sorted(dice.sample(pairs, dice.randint(0 if at < 2 else 1, min(2, len(pairs)))))
        used = sorted(dice.sample(pairs, dice.randint(1 if at < 3 else 0, min(2, len(pairs)))))
        made.append((name, tuple(needs), tuple(own), tuple(pair + (dice.random() < 0.5,) for pair in used)))
    preload = dice.sample(names[1:], 1) if dice.random() < 0.1 else ()
    chosen = dice.sample(names[1:], min(doors, libs - 1))
    chosen += [dice.choice(names[1:]) for _ in range(doors - len(chosen))]
    modes = [dice.choice(("global", "global", "local", "deep")) for _ in chosen]
    return tuple(made), tuple(preload), tuple(dict.fromkeys(zip(chosen, modes)))


def busy_steps(program, seed, closes=1):
    """Opens of all doors, some of them twice, many calls between, and so many closes at the end."""
    dice = random.Random(seed)
    doors = list(range(len(program[2])))
    opens = dice.sample(doors, len(doors)) + [k for k in doors if dice.random() < 0.3]
    found = []
    for k in opens:
        calls = call_steps(program)
        found += [("open", k)] + dice.sample(calls, dice.randint(0, len(calls)))
    return tuple(found + [("close", dice.choice(doors)) for _ in range(closes) if doors])
