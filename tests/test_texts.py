import random
import unittest

import model
import written
from latebound import texts
from latebound.data import is_program
from latebound.errors import BadText, NoProgram
from latebound.texts import answer_text, program_in, program_text, run_in, run_text
from samples import PROGRAM, Raising, lib, listed

ONE = ((lib("main", (), (), (("f", "", True),)), lib("a", (), (("f", ""),))), ("a",), (("a", "deep"),))
TEXT = "lib main | - | - | f?\nlib a | - | f | -\npreload a\ndoor a deep"
MAIN = "lib main | - | - | -"
# a program with as much as a line can have, in words like those of the texts
WORDS = ((lib("lib", ("preload", "door"), (("global", ""), ("global", "lib")),
              (("deep", "", True), ("local", "door", False))),
          lib("preload", ("door",)), lib("door", (), (), (("bound", "lost", True),))), ("door", "preload"),
         (("door", "global"), ("preload", "deep"), ("door", "local")))
WORDS_TEXT = ("lib lib | preload door | global global@lib | deep? local@door\nlib preload | door | - | -\n"
              "lib door | - | - | bound@lost?\npreload door preload\n"
              "door door global\ndoor preload deep\ndoor door local")


def outcome(action, *given):
    """What the action tells, or the error with its worth."""
    try:
        return action(*given)
    except (BadText, NoProgram) as error:
        return (type(error), vars(error))


class ProgramTextTest(Raising):

    def test_example(self):
        self.assertEqual(program_text(ONE), TEXT)
        self.assertEqual(program_in(TEXT), ONE)

    def test_defined_in_this_file(self):
        for function in (program_text, program_in, run_text, run_in, answer_text):
            self.assertEqual(function.__module__, texts.__name__)

    def test_words_like_those_of_the_texts(self):
        self.assertEqual((program_text(WORDS), program_in(WORDS_TEXT)), (WORDS_TEXT, WORDS))

    def test_none(self):
        program = ((lib("m"),), (), ())
        self.assertEqual((program_text(program), program_in("lib m | - | - | -\npreload -")),
                         ("lib m | - | - | -\npreload -", program))

    def test_there_and_back(self):
        programs = [PROGRAM, ONE, WORDS] + [model.lively_program(seed, 1 + seed % 8, seed % 5 if seed % 8 else 0)
                                            for seed in range(60)]
        programs += [model.random_program(seed, libs=8, doors=4, defs=6, uses=4, symbols="fghk") for seed in range(40)]
        long = "abcdefgh"
        programs.append(((lib(long, (), ((long, ""), (long, long)), ((long, long, True),)),), (), ()))
        for program in programs:
            text = program_text(program)
            self.assertEqual(program_in(text), program)
            self.assertEqual(self.told_by_lists(program_text, program), text)
            self.assertIsNone(written.bad_line(text.split("\n")))

    def test_kinds(self):
        told = program_in(text=WORDS_TEXT)
        for part in (told, *told, *told[0], *[value for one in told[0] for value in one[1:]], *told[2]):
            self.assertIs(type(part), tuple)
        self.assertIs(told[0][0][3][0][2], True)
        self.assertIs(told[0][0][3][1][2], False)
        self.assertEqual(program_text(program=listed(WORDS)), WORDS_TEXT)


class ProgramInTest(Raising):

    def bad(self, line, text):
        self.raises(BadText, line, program_in, text)
        self.assertEqual(written.bad_line(text.split("\n")), line)

    def test_the_empty_text(self):
        self.bad(0, "")
        self.bad(0, "\n")
        self.bad(0, "\n" + TEXT)

    def test_a_line_feed_at_the_end_and_empty_lines(self):
        self.bad(4, TEXT + "\n")
        lines = TEXT.split("\n")
        for at in range(4):
            self.bad(at, "\n".join(lines[:at] + [""] + lines[at:]))
            self.bad(at, "\n".join(lines[:at] + [" "] + lines[at:]))

    def test_further_blanks(self):
        self.bad(0, " " + TEXT)
        self.bad(3, TEXT + " ")
        for at, letter in enumerate(TEXT):
            if letter == " ":
                self.bad(TEXT[:at].count("\n"), TEXT[:at] + " " + TEXT[at:])
            if letter == "\n":
                self.bad(TEXT[:at].count("\n"), TEXT[:at] + " " + TEXT[at:])
                self.bad(TEXT[:at].count("\n") + 1, TEXT[:at + 1] + " " + TEXT[at + 1:])

    def test_the_order_of_the_lines(self):
        one, two, three, four = TEXT.split("\n")
        for line, lines in ((0, [three]), (0, [three, one]), (0, [four]), (1, [one, four, three]), (1, [one, four]),
                            (2, [one, three, two, four]), (3, [one, two, three, two]), (3, [one, two, three, three]),
                            (4, [one, two, three, four, three]), (4, [one, two, three, four, one]),
                            (1, [one, "door a"]), (2, [one, two, "no"])):
            self.bad(line, "\n".join(lines))

    def test_without_the_line_preload(self):
        one, two, _, four = TEXT.split("\n")
        self.bad(1, one)
        self.bad(2, one + "\n" + two)
        # a door cannot stand ahead of it
        self.bad(2, "\n".join([one, two, four]))

    def test_lines_lib(self):
        for line in ("lib", "lib ", "lib main", "lib main |", "lib main | - | -", "lib main | - | - | - | -",
                     "lib main | - | - | - |", "lib main| - | - | -", "lib main | -| - | -", "lib main |- | - | -",
                     "lib main - - -", "lib main | | - | -", "lib main |  | - | -", "lib main | - | | -",
                     "lib | - | - | -",
                     "lib - | - | - | -", "lib main a | - | - | -", "Lib main | - | - | -", "lib Main | - | - | -",
                     "lib main | - - | - | -", "lib main | a - | - | -", "lib main | a, b | - | -",
                     "lib main | a | b | c |",
                     "lib abcdefghi | - | - | -", "lib main | abcdefghi | - | -", "lib main | - | abcdefghi | -",
                     "lib main | - | a@abcdefghi | -", "lib main | - | - | abcdefghi?", "lib m4 | - | - | -",
                     "lib main | a@b | - | -", "lib main | a? | - | -", "lib main | - | a? | -",
                     "lib main | - | a@b? | -",
                     "lib main | - | a@ | -", "lib main | - | @a | -", "lib main | - | @ | -",
                     "lib main | - | a@b@c | -",
                     "lib main | - | a@@b | -", "lib main | - | - | a@", "lib main | - | - | a@?",
                     "lib main | - | - | ?",
                     "lib main | - | - | a??", "lib main | - | - | a?@b", "lib main | - | - | a ?",
                     "lib main | - | - | -?",
                     "lib main | - | - | @b?", "lib\tmain | - | - | -", "lib main | - | - | -\r",
                     "lib main | - | - | \u00e4",
                     "library | - | - | -", "lib main\v | - | - | -", "lib main | - | a\u2028b | -"):
            self.bad(0, line + "\npreload -")
            self.bad(1, MAIN + "\n" + line + "\npreload -")

    def test_lines_preload_and_door(self):
        for line in ("preload", "preload ", "preload  -", "preload - -", "preload a -", "preload a,b", "preload A",
                     "preload abcdefghi", "preload a@b", "Preload -", "preload: -", "preload -\r", "preloads -",
                     "preload -a"):
            self.bad(1, MAIN + "\n" + line)
        for line in ("door", "door a", "door a wide", "door a Global", "door a global local", "door A global",
                     "door - global",
                     "door global", "door abcdefghi deep", "door a  deep", "doors a deep", "door a deep ",
                     "door a@b deep", "a deep"):
            self.bad(2, MAIN + "\npreload -\n" + line)

    def test_no_program(self):
        for text in ("lib main | a | - | -\npreload -", "lib main | main | - | -\npreload -",
                     MAIN + "\n" + MAIN + "\npreload -",
                     MAIN + "\npreload main", MAIN + "\npreload a", MAIN + "\npreload -\ndoor main deep",
                     MAIN + "\npreload -\ndoor a deep", "lib main | - | b a | -\npreload -",
                     "lib main | - | a a | -\npreload -",
                     "lib main | - | a@b a | -\npreload -", "lib main | - | - | b a\npreload -",
                     "lib main | - | - | a a?\npreload -", "lib main | - | - | a? a\npreload -",
                     MAIN + "\nlib a | main | - | -\npreload -",
                     MAIN + "\nlib a | b b | - | -\nlib b | - | - | -\npreload -",
                     MAIN + "\nlib a | - | - | -\npreload a a",
                     MAIN + "\nlib a | - | - | -\npreload -\ndoor a deep\ndoor a deep"):
            with self.assertRaises(NoProgram) as caught:
                program_in(text)
            self.assertEqual(vars(caught.exception), {})
            # a line that is not so written goes ahead
            self.bad(len(text.split("\n")), text + "\ndoor a no")

    def test_changed_texts(self):
        kinds = {}
        dice = random.Random(8)
        for _ in range(4000):
            text = written.changed(dice.choice((TEXT, WORDS_TEXT, program_text(PROGRAM))), dice)
            bad = written.bad_line(text.split("\n"))
            told = outcome(program_in, text)
            if bad is not None:
                self.assertEqual(told, (BadText, {"line": bad}), text)
            elif is_program(told):
                self.assertEqual(program_text(told), text)
            else:
                self.assertEqual(told, (NoProgram, {}), text)
            kind = told[0] if isinstance(told[0], type) else "told"
            kinds[kind] = kinds.get(kind, 0) + 1
        self.assertGreater(min(kinds.values()), 100, kinds)


class RunTextTest(Raising):

    def test_example(self):
        self.assertEqual(run_text((("open", 0), ("call", "main", 0))), "open 0; call main 0")
        self.assertEqual(run_in("close 3"), (("close", 3),))

    def test_none(self):
        self.assertEqual((run_text(()), run_text([]), run_in("-")), ("-", "-", ()))

    def test_there_and_back(self):
        for seed in range(30):
            program = model.random_program(seed, libs=8, doors=4, uses=4)
            steps = model.random_steps(program, seed, 1 + 2 * seed)
            self.assertEqual(run_in(run_text(steps)), steps)
            self.assertEqual(self.told_by_lists(run_text, steps), run_text(run=steps))
        told = run_in(text="open 999999; call open 0; call close 100000; close 10")
        self.assertEqual(told, (("open", 999999), ("call", "open", 0), ("call", "close", 100000), ("close", 10)))
        self.assertEqual([type(part) for part in (told, *told)], [tuple] * 5)

    def test_not_so_written(self):
        for text in ("", " ", "--", "- ", " -", "-; open 0", "open 0; -", "open", "open ", "open  0", " open 0",
                     "open 0 ",
                     "open 0;", "open 0; ", "; open 0", "open 0;close 0", "open 0 ; close 0", "open 0;  close 0",
                     "open 0; ; open 0",
                     "open 0\n", "open 0\nclose 0", "open 00", "open 01", "open -1", "open +1", "open 1000000",
                     "open 0000001",
                     "open 1.0", "open 1_0", "open 0x1", "open \u0661", "open \u00b2", "open a", "open a 0",
                     "open 0 0", "Open 0",
                     "shut 0", "call", "call main", "call 0", "call main 00", "call main 0 0", "call main -1",
                     "call main 1000000",
                     "call Main 0", "call abcdefghi 0", "call - 0", "call main a", "call  0", "call main  0",
                     "call\tmain 0", "open True", "opened", "()", "None"):
            self.raises(BadText, 0, run_in, text)
            self.raises(BadText, 0, run_in, text="open 0; " + text)
            self.assertFalse(written.is_line(written.RUN, text))

    def test_changed_texts(self):
        dice = random.Random(9)
        told = {True: 0, False: 0}
        for _ in range(3000):
            text = written.changed("open 0; call main 10; close 3", dice, " ;0129-openclosecallab\n")
            good = written.is_line(written.RUN, text) and "\n" not in text
            told[good] += 1
            if good:
                self.assertEqual(run_text(run_in(text)), text)
            else:
                self.raises(BadText, 0, run_in, text)
        self.assertGreater(min(told.values()), 200, told)


class AnswerTextTest(Raising):

    def test_each_kind_of_answer(self):
        for word in ("opened", "closed", "full", "shut", "nobody", "lost", "torn", "away"):
            self.assertEqual((answer_text((word,)), answer_text([word]), answer_text(answer=(word,))), (word,) * 3)
        self.assertEqual(answer_text(("bound", "a", "v")), "bound a@v")
        self.assertEqual(answer_text(["bound", "a", ""]), "bound a")
        self.assertEqual(answer_text(("bound", "lost", "torn")), "bound lost@torn")


if __name__ == "__main__":
    unittest.main()
