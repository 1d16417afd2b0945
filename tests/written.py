"""The document's words on texts, as regular expressions. Nothing here imports the package."""

import re

NAME = "[a-z]{1,8}"
DEF = f"{NAME}(?:@{NAME})?"
USE = f"{DEF}\\??"
NUMBER = "(?:0|[1-9][0-9]{0,5})"
STEP = f"(?:open {NUMBER}|close {NUMBER}|call {NAME} {NUMBER})"
ANSWER = f"(?:nobody|lost|torn|bound {DEF})"


def items(word):
    return f"(?:-|{word}(?: {word})*)"


LIB = f"lib {NAME} \\| {items(NAME)} \\| {items(DEF)} \\| {items(USE)}"
PRELOAD = f"preload {items(NAME)}"
DOOR = f"door {NAME} (?:global|local|deep)"
RUN = f"(?:-|{STEP}(?:; {STEP})*)"
REQUEST = (f"(?:{STEP}|there|public|deep|looks {NAME}|opened|slots"
           f"|told {NAME} {NUMBER}(?: with(?P<doors>(?: {NUMBER})+))?"
           f"|(?:needed|fewest) {NAME} {NUMBER} {ANSWER}|shown {NUMBER}|again)")


def is_line(pattern, line):
    return re.fullmatch(pattern, line) is not None


def bad_line(lines):
    """The number of the first line of a program that is not so written, or stands where it must not, or None."""
    place = 0
    for at, line in enumerate(lines):
        if place == 0 and is_line(LIB, line):
            continue
        if place == 0 and at > 0 and is_line(PRELOAD, line):
            place = 1
        elif place == 0 or not is_line(DOOR, line):
            return at
    return len(lines) if place == 0 else None


def is_request(line):
    found = re.fullmatch(REQUEST, line)
    if found is None or found["doors"] is None:
        return found is not None
    numbers = [int(word) for word in found["doors"].split()]
    return all(one < other for one, other in zip(numbers, numbers[1:]))


def bad_desk_line(lines):
    """The same of the lines at the desk."""
    end = lines.index("") if "" in lines else len(lines)
    bad = bad_line(lines[:end])
    if bad is not None:
        return bad
    return next((at for at in range(end + 1, len(lines)) if not is_request(lines[at])), None)


def changed(text, dice, letters=" -|@?\nablibpreopendoor0129;.A\t\r"):
    """The text with a few letters or lines changed, left out, doubled, exchanged or put in."""
    for _ in range(dice.choice((1, 1, 1, 2, 3))):
        at = dice.randint(0, len(text))
        lines = text.split("\n")
        one, other = dice.randrange(len(lines)), dice.randrange(len(lines))
        kind = dice.randrange(8)
        if kind < 3:
            text = text[:at] + dice.choice(letters) + text[at + (kind == 0):]
        elif kind == 3:
            text = text[:at] + text[at + 1:]
        elif kind == 4:
            lines[one], lines[other] = lines[other], lines[one]
        elif kind == 5:
            lines.insert(other, lines[one])
        elif kind == 6:
            lines.insert(one, "")
        else:
            del lines[one]
        text = "\n".join(lines) if kind > 3 else text
    return text
