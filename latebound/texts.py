"""Programs, runs and answers as texts."""

from latebound.data import DOOR_WORDS, MODES, is_name, is_program
from latebound.errors import BadText, NoProgram

NONE = "-"
DIGITS = "0123456789"
MOST_DIGITS = 6


def program_text(program):
    """The text of the PROGRAM."""
    libs, preload, doors = program
    lines = [lib_line(lib) for lib in libs]
    lines.append("preload " + items_text(preload))
    lines += [f"door {name} {mode}" for name, mode in doors]
    return "\n".join(lines)


def program_in(text):
    """The PROGRAM with this text; raises BadText(line), NoProgram()."""
    found = parts_in(text.split("\n"))
    if not is_program(found):
        raise NoProgram()
    return found


def run_text(run):
    """The text of the RUN."""
    return parts_text([step_text(step) for step in run])


def run_in(text):
    """The tuple of STEPs with this text; raises BadText(0)."""
    if text == NONE:
        return ()
    steps = [step_in(part.split(" ")) for part in text.split("; ")]
    if None in steps:
        raise BadText(0)
    return tuple(steps)


def answer_text(answer):
    """The text of the answer."""
    if answer[0] != "bound":
        return answer[0]
    return "bound " + defined_text(answer[1], answer[2])


def lib_line(lib):
    """The line of the LIB."""
    name, needs, defs, uses = lib
    known = [defined_text(symbol, version) for symbol, version in defs]
    called = [defined_text(symbol, version) + ("?" if weak else "") for symbol, version, weak in uses]
    return f"lib {name} | {items_text(needs)} | {items_text(known)} | {items_text(called)}"


def items_text(words):
    """The words with blanks between, - for none."""
    return " ".join(words) if len(words) > 0 else NONE


def parts_text(parts):
    """The parts with "; " between, - for none."""
    return "; ".join(parts) if len(parts) > 0 else NONE


def defined_text(name, version):
    """The name, with the version behind it if there is one."""
    return f"{name}@{version}" if version else name


def step_text(step):
    """The text of the STEP."""
    return " ".join([str(part) for part in step])


def parts_in(lines):
    """The parts (libs, preload, doors) that the lines tell, maybe no PROGRAM; raises BadText(line)."""
    libs = []
    while len(libs) < len(lines) and lines[len(libs)].startswith("lib "):
        libs.append(part_in(lines, len(libs), lib_in))
    at = len(libs)
    if at == 0 or at == len(lines):
        raise BadText(at)
    preload = part_in(lines, at, preload_in)
    doors = [part_in(lines, number, door_in) for number in range(at + 1, len(lines))]
    return tuple(libs), preload, tuple(doors)


def part_in(lines, at, reader):
    """What the reader reads in this line; raises BadText(at)."""
    found = reader(lines[at])
    if found is None:
        raise BadText(at)
    return found


def lib_in(line):
    """The LIB that the line tells, maybe one that is none; None if the line is not so written."""
    parts = [part.split(" ") for part in line.split(" | ")]
    if len(parts) != 4 or len(parts[0]) != 2 or parts[0][0] != "lib":
        return None
    head, needs, defs, uses = parts
    found = (name_in(head[1]), items_in(needs, name_in), items_in(defs, def_in), items_in(uses, use_in))
    return None if None in found else found


def preload_in(line):
    """The names of preload that the line tells; None if the line is not so written."""
    words = line.split(" ")
    return items_in(words[1:], name_in) if words[0] == "preload" else None


def door_in(line):
    """The pair (name, mode) that the line tells; None if the line is not so written."""
    words = line.split(" ")
    if len(words) != 3 or words[0] != "door" or not is_name(words[1]) or words[2] not in MODES:
        return None
    return words[1], words[2]


def items_in(words, reader):
    """A tuple of what the reader reads in each of the words, () for -; None if they are not so written."""
    if words == [NONE]:
        return ()
    found = tuple([reader(word) for word in words])
    return None if len(found) == 0 or None in found else found


def name_in(word):
    """The NAME that the word is; None if it is none."""
    return word if is_name(word) else None


def def_in(word):
    """The pair (SYMBOL, VERSION) that the word tells; None if it is not so written."""
    symbol, mark, version = word.partition("@")
    if not is_name(symbol) or (mark != "" and not is_name(version)):
        return None
    return symbol, version


def use_in(word):
    """The triple (SYMBOL, VERSION, weak) that the word tells; None if it is not so written."""
    weak = word.endswith("?")
    found = def_in(word[:-1] if weak else word)
    return None if found is None else (found[0], found[1], weak)


def step_in(words):
    """The STEP of some PROGRAM that the words tell; None if they are not so written."""
    number = number_in(words[-1])
    if number is None:
        return None
    if len(words) == 2 and words[0] in DOOR_WORDS:
        return words[0], number
    if len(words) == 3 and words[0] == "call" and is_name(words[1]):
        return words[0], words[1], number
    return None


def number_in(word):
    """The number that the word tells; None if it is not so written."""
    if not 1 <= len(word) <= MOST_DIGITS or not all([letter in DIGITS for letter in word]):
        return None
    return None if word[0] == "0" and word != "0" else int(word)
