"""All answers that calls can have, and what must be hidden so that they have the wanted ones."""

from latebound.data import is_run
from latebound.rows import all_calls, answer_along, serving, unbound_answer, use_of
from latebound.runs import process_behind
from latebound.tuples import frozen
from latebound.walks import sights


def bindings(program, name, i):
    """The pairs (answer, run) of all answers to this call, its slot being unbound, each with the shortest RUN to it."""
    use = use_of(program, name, i)
    found = {}
    for sight, run in sights(program, [(name, i)])[(name, i)].items():
        # the runs ascend, so the first one to an answer stays
        found.setdefault(answer_along(program, sight, use), run + (("call", name, i),))
    return sorted(found.items())


def always(program, name, i):
    """The only answer that this call can have while its slot is unbound; None if there is none, or more than one."""
    found = bindings(program, name, i)
    return found[0][0] if len(found) == 1 else None


def shows_answer(program, name, i, reply, thing):
    """Whether thing is a RUN at the end of which this call, its slot being unbound, is told the reply."""
    use_of(program, name, i)
    if not is_run(program, thing) or thing[-1:] != (("call", name, i),):
        return False
    process = process_behind(program, thing[:-1])
    if name not in process.there() or process.slot(name, i) is not None:
        return False
    return process.call(name, i) == frozen(reply)


def dead(program):
    """The definitions to which no call is bound in any run, ascending."""
    live = {}
    for (name, i), found in sights(program, all_calls(program)).items():
        use = use_of(program, name, i)
        for sight in found:
            live[definition_in(use, answer_along(program, sight, use))] = True
    return [definition for definition in all_definitions(program) if definition not in live]


def without(program, definitions):
    """The PROGRAM without these definitions."""
    libs, preload, doors = frozen(program)
    gone = frozen(definitions)
    left = []
    for name, needs, defs, uses in libs:
        kept = [(symbol, version) for symbol, version in defs if (name, symbol, version) not in gone]
        left.append((name, needs, tuple(kept), uses))
    return tuple(left), preload, doors


def hides(program, wants):
    """The least definitions without which all wants are met, ascending; None if there are none."""
    wants = frozen(wants)
    calls = [(name, i) for name, i, _ in wants]
    prices = all_prices(program, calls)
    bits = bits_of(program)
    gone = kept = 0
    for name, i, answer in wants:
        kept |= bits.get(definition_in(use_of(program, name, i), answer), 0)
        price = prices[(name, i)]
        # the answer of a LIB that is never there is no other one, whatever goes
        if price:
            if answer not in price:
                return None
            gone |= price[answer]
    return None if gone & kept else definitions_of(bits, gone)


def fewest_hides(program, calls):
    """The fewest definitions without which each of the calls has at most one answer, and these answers."""
    prices = all_prices(program, calls)
    bits = bits_of(program)
    ways = [(0, 0, ())]
    for name, i in calls:
        use = use_of(program, name, i)
        price = prices[(name, i)]
        choices = [(price[answer], bits.get(definition_in(use, answer), 0), answer) for answer in price]
        ways = longer_ways(ways, choices if choices else [(0, 0, None)])
    # of as many definitions the least list has the greatest number, see bits_of
    gone, _, answers = min(ways, key=lambda way: (many_bits(way[0]), -way[0]))
    return definitions_of(bits, gone), answers


def longer_ways(ways, choices):
    """Each of the ways with each of the choices, as far as none of the definitions that are kept must go.

    A way is a triple (gone, kept, answers): what must go and what must be kept for these answers of the first calls.
    A choice is a triple (gone, kept, answer) for the next call.
    """
    found = []
    for gone, kept, answers in ways:
        for more_gone, more_kept, answer in choices:
            if (gone | more_gone) & (kept | more_kept) == 0:
                found.append((gone | more_gone, kept | more_kept, answers + (answer,)))
    return found


def all_prices(program, calls):
    """For each of the calls, pairs (name, i), its prices; raises NoLib, NoUse for the first one that is wrong."""
    bits = bits_of(program)
    prices = {}
    for (name, i), found in sights(program, calls).items():
        prices[(name, i)] = prices_of(program, use_of(program, name, i), list(found), bits)
    return prices


def prices_of(program, use, found, bits):
    """A dict of all answers that a call with these sights can be made to have always, each with the bits that must go.

    Whatever stands ahead of the meant definition in some sight must go, and nothing else.
    """
    ahead = {}
    times = {}
    for sight in found:
        passed = 0
        for answer in answers_along(program, sight, use):
            ahead[answer] = ahead.get(answer, 0) | passed
            times[answer] = times.get(answer, 0) + 1
            passed |= bits.get(definition_in(use, answer), 0)
    # what is not in all sights is not meant always, whatever goes
    return {answer: ahead[answer] for answer in ahead if times[answer] == len(found)}


def answers_along(program, sight, use):
    """The answers that this sight has for the use, each if those ahead of it are hidden."""
    found = [("bound", name, version) for name in sight for version in serving(program, name, use)]
    return [*found, unbound_answer(use)]


def definition_in(use, answer):
    """The definition to which this answer binds a call of the use; None if it binds it to none."""
    return (answer[1], use[0], answer[2]) if answer[0] == "bound" else None


def all_definitions(program):
    """All definitions, ascending."""
    return sorted([(lib[0], symbol, version) for lib in program[0] for symbol, version in lib[2]])


def bits_of(program):
    """A bit for each definition, so that a number tells some of them: the least definition has the greatest bit."""
    return {definition: 1 << at for at, definition in enumerate(all_definitions(program)[::-1])}


def definitions_of(bits, number):
    """The definitions that the number tells, ascending."""
    return sorted([definition for definition in bits if bits[definition] & number])


def many_bits(number):
    """How many definitions the number tells."""
    return f"{number:b}".count("1")
