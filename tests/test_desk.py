import random
import unittest

import model
import written
from latebound import desk
from latebound.data import is_program
from latebound.desk import answers
from latebound.doors import fewest_doors, needed, shown_by, told_with
from latebound.errors import BadLine, NoDoor, NoLib, NoProgram, NotThere, NoUse
from latebound.process import Process
from latebound.texts import answer_text, program_in, program_text, run_text
from samples import PROGRAM, Raising, lib

LIBS = (lib("main", (), (), (("f", "", True),)), lib("a", (), (("f", ""),)), lib("b", ("a",), (("g", ""),)))
# the example of sections 11 and 13 of the document
ONE = (LIBS, (), (("a", "global"), ("b", "local"), ("b", "global")))
TEXT = program_text(ONE)
# the number of the line of the first request behind it
FIRST = 8
MAIN = "lib main | - | - | -"
# callers that are lost, and answers with a version
TWO = ((lib("main", (), (), (("f", "v", False), ("g", "", True))), lib("t", (), (("f", "v"),)),
        lib("c", (), (), (("f", "", False),))),
       (), (("t", "global"), ("c", "deep")))


def asked(program, *requests):
    return answers("\n".join([program_text(program), ""] + list(requests)))


class AnswersTest(Raising):

    def test_example(self):
        self.assertEqual(
            answers(TEXT + "\n\nopen 0\ncall main 0\nclose 0\ncall main 0\nslots\nshown 1\nclose 7"),
            ["opened", "bound a", "closed", "torn", "main 0 torn", "open 0; open 1; close 0; call main 0",
             "refused NoDoor"])

    def test_defined_in_this_file(self):
        self.assertEqual(answers.__module__, desk.__name__)

    def test_no_requests(self):
        for text in (TEXT, TEXT + "\n", MAIN + "\npreload -", MAIN + "\npreload -\n"):
            told = answers(text=text)
            self.assertEqual((told, type(told)), ([], list))

    def test_opens_and_closes(self):
        self.assertEqual(asked(ONE, "open 1", "open 1", "open 1", "close 1", "close 1", "close 1", "open 3",
                               "close 999999"),
                         ["opened", "opened", "full", "closed", "closed", "shut", "refused NoDoor", "refused NoDoor"])

    def test_calls(self):
        self.assertEqual(asked(TWO, "call main 0", "call main 1", "call c 0", "open 1", "call c 0", "open 0",
                               "call c 0", "call main 0",
                               "call main 1", "close 0", "call c 0", "call main 0", "call main 2", "call t 0",
                               "call nope 0", "call nope 9", "call main 999999"),
                         ["lost", "nobody", "refused NotThere", "opened", "lost", "opened", "bound t@v", "bound t@v",
                          "nobody", "closed", "torn", "torn", "refused NoUse", "refused NotThere", "refused NoLib",
                          "refused NoLib", "refused NoUse"])
        # a library without uses that is there
        self.assertEqual(asked(TWO, "open 0", "call t 0"), ["opened", "refused NoUse"])

    def test_who_is_there(self):
        told = asked(PROGRAM, "there", "public", "deep", "opened", "open 2", "open 0", "there", "public", "deep",
                     "opened", "open 1", "close 2", "opened", "deep", "public")
        self.assertEqual(told, ["main", "main", "-", "-", "opened", "opened", "base main one", "main one base",
                                "base one", "2 0", "opened", "closed", "0 1", "base one", "main one base"])

    def test_looks(self):
        told = asked(PROGRAM, "looks main", "looks one", "open 2", "looks one", "open 1", "looks two", "looks base",
                     "looks nope")
        self.assertEqual(told, ["main", "refused NotThere", "opened", "one base main", "opened", "main two base",
                                "one base two main", "refused NoLib"])

    def test_slots(self):
        told = asked(TWO, "slots", "call main 1", "call main 0", "slots", "open 0", "open 1", "call c 0", "slots",
                     "call main 0", "close 0", "slots")
        self.assertEqual(told, ["-", "nobody", "lost", "main 1 nobody", "opened", "opened", "bound t@v",
                                "c 0 bound t@v; main 1 nobody",
                                "bound t@v", "closed", "c 0 torn; main 0 torn; main 1 nobody"])

    def test_told(self):
        told = asked(TWO, "told main 0", "told main 1", "told c 0", "told c 0 with 1", "told c 0 with 0",
                     "told main 0 with 0",
                     "told main 0 with 1", "told main 0 with 0 1", "told c 0 with 1 2", "told nope 0",
                     "told nope 0 with 9", "told t 0", "told main 2 with 7", "told main 0 with 5 999999")
        self.assertEqual(told, ["bound t@v; lost; torn", "nobody", "bound t@v; lost; torn", "lost", "-",
                                "bound t@v; lost; torn",
                                "lost", "bound t@v; lost; torn", "refused NoDoor", "refused NoLib", "refused NoLib",
                                "refused NoUse", "refused NoUse", "refused NoDoor"])
        self.assertEqual(answers(MAIN + "\nlib a | - | - | f\npreload -\n\ntold a 0\ntold a 0 with 0"),
                         ["-", "refused NoDoor"])

    def test_needed_and_fewest(self):
        told = asked(TWO, "needed c 0 bound t@v", "fewest c 0 bound t@v", "needed main 0 lost", "fewest main 0 lost",
                     "needed main 1 nobody", "fewest main 1 nobody", "needed c 0 torn", "fewest c 0 torn",
                     "needed c 0 bound t",
                     "fewest c 0 bound t", "needed main 0 nobody", "fewest main 0 nobody", "fewest main 0 torn",
                     "needed main 0 torn",
                     "fewest c 0 bound nope@nope", "needed nope 0 lost", "fewest t 0 torn", "needed main 2 bound t@v")
        self.assertEqual(told, ["0 1", "0 1", "-", "-", "-", "-", "0 1", "0 1", "never", "never", "never", "never",
                                "0", "0", "never", "refused NoLib", "refused NoUse", "refused NoUse"])

    def test_shown(self):
        self.assertEqual(asked(TWO, "shown 0", "shown 1", "shown 2"), ["open 0; call main 0", "idle", "refused NoDoor"])

    def test_again(self):
        told = asked(ONE, "open 0", "call main 0", "again", "slots", "opened", "close 0", "call main 0", "again",
                     "again")
        self.assertEqual(told, ["opened", "bound a", "done", "-", "-", "shut", "nobody", "done", "done"])

    def test_questions_change_nothing(self):
        questions = ("there", "public", "deep", "looks main", "opened", "slots", "told main 0", "told main 0 with 1",
                     "needed main 0 torn", "fewest main 0 torn", "shown 1", "call nope 0", "open 9")
        steps = ("open 2", "call main 0", "open 1", "close 2", "call main 0", "slots")
        plain = asked(ONE, *steps)
        mixed = asked(ONE, *[request for step in steps for request in questions + (step,) + questions])
        many = 2 * len(questions) + 1
        self.assertEqual(mixed[len(questions)::many], plain)


class BadLineTest(Raising):

    def bad(self, number, text):
        self.raises(BadLine, number, answers, text)
        self.assertEqual(written.bad_desk_line(text.split("\n")), number)

    def test_requests_that_are_not_so_written(self):
        for request in ("", " ", "-", "nope", "open", "open ", "open  0", " open 0", "open 0 ", "open 00", "open -1",
                        "open 1000000",
                        "open a", "open 0 0", "open 0; close 0", "Open 0", "call", "call main", "call main 0 0",
                        "call 0 main",
                        "call Main 0", "call main 01", "call abcdefghi 0", "there ", "there main", " there",
                        "public 0", "deep -",
                        "opened 0", "slots main", "again 0", "again again", "looks", "looks ", "looks Main",
                        "looks main a", "looks 0",
                        "looks abcdefghi", "shown", "shown ", "shown a", "shown 0 1", "shown 00", "shown 1000000",
                        "told", "told main",
                        "told main a", "told main 0 ", "told main 00", "told main 0 with", "told main 0 with ",
                        "told main 0 with a",
                        "told main 0 with 0 0", "told main 0 with 1 0", "told main 0 with 0 2 1", "told main 0 with 00",
                        "told main 0 with 0  1", "told main 0 with 1000000", "told main 0 0", "told main 0 With 0",
                        "told main 0 with with", "told main 0 with 0 with 1", "told main 0 with -", "told Main 0",
                        "needed main 0", "needed main", "needed main 0 ", "needed main 0 away", "needed main 0 opened",
                        "needed main 0 bound",
                        "needed main 0 bound ", "needed main 0 bound a@", "needed main 0 bound @a",
                        "needed main 0 bound a b",
                        "needed main 0 bound a@b@c", "needed main 0 bound a?", "needed main 0 bound A",
                        "needed main 0 torn torn",
                        "needed main 0 torn ", "needed main a torn", "needed 0 torn", "fewest main 0",
                        "fewest main 0 never",
                        "fewest main 0 bound abcdefghi", "fewest main 0 bound -", "fewest main 0  lost",
                        "fewest main 0 with 0", "shut 0", "undo", "open\t0", "there\r"):
            self.bad(FIRST, TEXT + "\n\n" + request)
            self.bad(FIRST + 2, TEXT + "\n\nopen 0\nopen 9\n" + request + "\nclose 0\nnope")

    def test_a_second_empty_line_and_a_line_feed_at_the_end(self):
        self.bad(FIRST, TEXT + "\n\n")
        self.bad(FIRST, TEXT + "\n\n\nthere")
        self.bad(FIRST + 1, TEXT + "\n\nthere\n")
        self.bad(FIRST + 1, TEXT + "\n\nthere\n\nthere")

    def test_lines_of_the_program(self):
        for number, text in ((0, ""), (0, "\n"), (0, "\nthere"), (0, "\n\n"), (0, "there"), (0, "preload -\n\nthere"),
                             (1, MAIN), (1, MAIN + "\n"), (1, MAIN + "\n\n"), (1, MAIN + "\n\nthere"),
                             (1, MAIN + "\n\nnope"), (1, MAIN + "\nthere"), (1, MAIN + "\ndoor a deep\n\nthere"),
                             (2, MAIN + "\npreload -\nthere"),
                             (2, MAIN + "\nlib a | - | - | -"), (2, MAIN + "\nlib a | - | - | -\n\nnope\n"),
                             (2, MAIN + "\npreload -\npreload -\n\nnope"), (2, MAIN + "\npreload -\n \nthere"),
                             (0, MAIN + " \npreload - \n\nnope"), (1, MAIN + "\npreload - \n\nnope")):
            self.bad(number, text)

    def test_ahead_of_no_program_and_of_all_answers(self):
        wrong = MAIN + "\nlib a | nope | - | -\npreload -"
        self.bad(5, wrong + "\n\nthere\nnope")
        for text in (wrong, wrong + "\n", wrong + "\n\nthere\nopen 9", MAIN + "\npreload main\n\nthere"):
            with self.assertRaises(NoProgram) as caught:
                answers(text)
            self.assertEqual(vars(caught.exception), {})


def reply(program, process, words):
    """What the desk must answer to this request, by the other files of the package."""
    word, rest = words[0], [int(part) if part.isdigit() else part for part in words[1:]]
    if word in ("open", "close", "call"):
        return answer_text(process.do((word, *rest)))
    if word in ("there", "public", "deep", "looks"):
        return " ".join(getattr(process, word)(*rest)) or "-"
    if word == "opened":
        return " ".join(map(str, process.opened())) or "-"
    if word == "slots":
        return "; ".join(f"{name} {i} {answer_text(answer)}" for name, i, answer in process.stand()[1]) or "-"
    if word == "told":
        told = told_with(program, rest[0], rest[1], tuple(rest[3:]) if rest[2:] else tuple(range(len(program[2]))))
        return "; ".join(map(answer_text, told)) or "-"
    if word == "shown":
        found = shown_by(program, rest[0])
        return "idle" if found is None else run_text(found)
    answer = tuple(rest[2:])
    if answer[0] == "bound":
        name, _, version = answer[1].partition("@")
        answer = ("bound", name, version)
    found = (needed if word == "needed" else fewest_doors)(program, rest[0], rest[1], answer)
    return "never" if found is None else " ".join(map(str, found)) or "-"


def replies(text):
    lines = text.split("\n")
    end = lines.index("")
    program = program_in("\n".join(lines[:end]))
    process = Process(program)
    told = []
    for line in lines[end + 1:]:
        if line == "again":
            process = Process(program)
            told.append("done")
        else:
            try:
                told.append(reply(program, process, line.split(" ")))
            except (NoDoor, NoLib, NoUse, NotThere) as error:
                told.append("refused " + type(error).__name__)
    return told


def random_requests(program, dice, many):
    names = [one[0] for one in program[0]] + ["nope"]
    found = []
    for _ in range(many):
        name, i, k = dice.choice(names), dice.choice((0, 0, 1, 1, 2)), dice.randint(0, len(program[2]))
        answer = dice.choice(("nobody", "lost", "torn", f"bound {dice.choice(names)}", f"bound {dice.choice(names)}@a"))
        doors = sorted(dice.sample(range(5), dice.randint(1, 3)))
        call = dice.choice(model.call_steps(program) or [("call", "nope", 0)])
        found.append(dice.choice((f"open {k}", f"open {k}", f"close {k}", f"call {name} {i}", run_text((call,)),
                                  run_text((call,)),
                                  f"told {name} {i}", f"told {call[1]} {call[2]} with {' '.join(map(str, doors))}",
                                  f"needed {name} {i} {answer}",
                                  f"fewest {call[1]} {call[2]} {answer}", f"shown {k}", f"looks {name}", "there",
                                  "public", "deep",
                                  "opened", "slots", "slots", "again" if dice.random() < 0.3 else "slots")))
    return found


class RandomTest(Raising):

    def test_beside_the_other_files(self):
        words = {}
        for seed in range(80):
            program = model.lively_program(seed, 2 + seed % 5, 1 + seed % 4, "fg")
            dice = random.Random(seed)
            text = "\n".join([program_text(program), ""] + random_requests(program, dice, 40))
            told = answers(text)
            self.assertEqual(told, replies(text))
            self.assertEqual(answers(text), told)
            for answer in told:
                for word in (answer if answer.startswith("refused") else answer.split(" ")[0], answer.split(" ")[-1]):
                    words[word] = words.get(word, 0) + 1
        for word in ("refused NoDoor", "refused NoLib", "refused NoUse", "refused NotThere", "never", "idle", "-",
                     "bound", "torn", "nobody", "lost", "full", "shut", "done"):
            self.assertGreater(words.get(word, 0), 5, (word, words))

    def test_changed_texts(self):
        kinds = {}
        dice = random.Random(3)
        for seed in range(1500):
            program = (ONE, TWO, PROGRAM)[seed % 3]
            text = "\n".join([program_text(program), ""] + random_requests(program, dice, 6))
            text = written.changed(text, dice)
            bad = written.bad_desk_line(text.split("\n"))
            if bad is not None:
                self.raises(BadLine, bad, answers, text)
                kind = "bad"
            elif not self.is_written(text):
                self.assertRaises(NoProgram, answers, text)
                kind = "no program"
            else:
                self.assertEqual(answers(text), replies(text) if "\n\n" in text else [])
                kind = "good"
            kinds[kind] = kinds.get(kind, 0) + 1
        self.assertGreater(min(kinds["bad"], kinds["good"]), 200, kinds)
        self.assertGreater(kinds["no program"], 5, kinds)

    def is_written(self, text):
        try:
            return is_program(program_in(text.partition("\n\n")[0].rstrip("\n")))
        except NoProgram:
            return False


if __name__ == "__main__":
    unittest.main()
