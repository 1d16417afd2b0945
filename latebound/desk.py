"""A desk: a program as a text, and requests about it."""

from latebound.data import ascends, is_name, is_program
from latebound.doors import fewest_doors, needed, shown_by, told_with
from latebound.errors import BadLine, BadText, NoDoor, NoLib, NoProgram, NotThere, NoUse
from latebound.process import Process
from latebound.texts import answer_text, def_in, items_text, number_in, parts_in, parts_text, run_text, step_in

STEP_WORDS = ("open", "close", "call")
PLAIN_WORDS = ("there", "public", "deep", "opened", "slots", "again")
CALL_WORDS = ("told", "needed", "fewest")
ANSWER_WORDS = ("nobody", "lost", "torn")


def answers(text):
    """The answers to the requests of the text, a list of strings; raises BadLine(number), NoProgram()."""
    program, requests = parts_of(text.split("\n"))
    if not is_program(program):
        raise NoProgram()
    process = Process(program)
    told = []
    for request in requests:
        if request[0] == "again":
            process = Process(program)
        told.append(reply_or_refusal(program, process, request))
    return told


def parts_of(lines):
    """The parts of the program, maybe no PROGRAM, and the list of requests that the lines tell; raises BadLine."""
    end = lines.index("") if "" in lines else len(lines)
    try:
        program = parts_in(lines[:end])
    except BadText as wrong:
        raise BadLine(wrong.line) from None
    requests = []
    for at in range(end + 1, len(lines)):
        request = request_in(lines[at].split(" "))
        if request is None:
            raise BadLine(at)
        requests.append(request)
    return program, requests


def request_in(words):
    """The request that the words tell, a tuple of its word and its values; None if they are not so written."""
    word = words[0]
    if word in STEP_WORDS:
        return step_in(words)
    if word in PLAIN_WORDS and len(words) == 1:
        return (word,)
    if word == "looks" and len(words) == 2 and is_name(words[1]):
        return word, words[1]
    if word == "shown" and len(words) == 2 and number_in(words[1]) is not None:
        return word, number_in(words[1])
    if word in CALL_WORDS and len(words) > 2 and is_name(words[1]) and number_in(words[2]) is not None:
        return call_request(word, words[1], number_in(words[2]), words[3:])
    return None


def call_request(word, name, i, rest):
    """The request about a call, with the rest of its words; None if these are not so written."""
    if word == "told" and rest == []:
        return word, name, i
    value = doors_in(rest) if word == "told" else answer_in(rest)
    return None if value is None else (word, name, i, value)


def doors_in(words):
    """The ascending tuple of numbers that the words tell behind the word with; None if they are not so written."""
    numbers = [number_in(word) for word in words[1:]]
    if words[0] != "with" or numbers == [] or None in numbers or not ascends(numbers):
        return None
    return tuple(numbers)


def answer_in(words):
    """The answer that the words tell; None if they are not so written."""
    if len(words) == 1 and words[0] in ANSWER_WORDS:
        return (words[0],)
    if len(words) == 2 and words[0] == "bound" and def_in(words[1]) is not None:
        return (words[0],) + def_in(words[1])
    return None


def reply_or_refusal(program, process, request):
    """The answer to the request, or the refusal if it raises an error."""
    action = REPLIES[request[0]]
    try:
        return action(program, process, request)
    except NoDoor:
        return "refused NoDoor"
    except NoLib:
        return "refused NoLib"
    except NoUse:
        return "refused NoUse"
    except NotThere:
        return "refused NotThere"


def step_reply(program, process, request):
    """What the Process answers to the STEP."""
    return answer_text(process.do(request))


def there_reply(program, process, request):
    """The LIBs that are there."""
    return items_text(process.there())


def public_reply(program, process, request):
    """The public LIBs."""
    return items_text(process.public())


def deep_reply(program, process, request):
    """The deep LIBs."""
    return items_text(process.deep())


def looks_reply(program, process, request):
    """The LIBs along which a LIB looks."""
    return items_text(process.looks(request[1]))


def opened_reply(program, process, request):
    """The open doors."""
    return numbers_text(process.opened())


def slots_reply(program, process, request):
    """The slots that are not unbound."""
    return parts_text([f"{name} {i} {answer_text(answer)}" for name, i, answer in process.stand()[1]])


def told_reply(program, process, request):
    """All that a call can tell, with some doors or with all."""
    doors = request[3] if len(request) > 3 else list(range(len(program[2])))
    return parts_text([answer_text(answer) for answer in told_with(program, request[1], request[2], doors)])


def needed_reply(program, process, request):
    """The doors without which a call cannot tell an answer."""
    return numbers_text(needed(program, request[1], request[2], request[3]))


def fewest_reply(program, process, request):
    """The fewest doors with which a call can tell an answer."""
    return numbers_text(fewest_doors(program, request[1], request[2], request[3]))


def shown_reply(program, process, request):
    """A run that shows a door."""
    found = shown_by(program, request[1])
    return "idle" if found is None else run_text(found)


def again_reply(program, process, request):
    """The Process is a new one."""
    return "done"


def numbers_text(numbers):
    """The numbers with blanks between; never for None."""
    return "never" if numbers is None else items_text([str(number) for number in numbers])


REPLIES = {
    "open": step_reply,
    "close": step_reply,
    "call": step_reply,
    "there": there_reply,
    "public": public_reply,
    "deep": deep_reply,
    "looks": looks_reply,
    "opened": opened_reply,
    "slots": slots_reply,
    "told": told_reply,
    "needed": needed_reply,
    "fewest": fewest_reply,
    "shown": shown_reply,
    "again": again_reply,
}
