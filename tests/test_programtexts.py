"""Point 17: program_text, read_program, condition_text and read_condition."""

import re
import unittest
from random import Random

from lateststore.errors import BadCount, BadText, NoLine, NoWord
from lateststore.programs import Fence, Flush, Memory, Program, Store
from lateststore.programtexts import condition_text, program_text, read_condition, read_program
from lateststore.rules import Is
from tests.helper import Checks, drawn_command, drawn_conditions, drawn_programs, safe, short_programs

NUMBER = r"(0|-?[1-9][0-9]{0,30})"
COMMAND = re.compile(rf"store {NUMBER} {NUMBER} {NUMBER}|flush {NUMBER}|fence")
CONDITION = re.compile(rf"{NUMBER}\.{NUMBER}={NUMBER}(/{NUMBER})*")
CHARACTERS = " ,-./=0123456789abcdefghijklmnopqrstuvwxyz>+_X"
MOST, LEAST = "9" * 31, "-" + "9" * 31
WRONG_NUMBERS = ("", "-", "--1", "-0", "00", "01", "-01", "+1", "1-", "1e3", "1.0", "0x1", "a", "1_0", "1" * 32, "-" + "1" * 32,
                 "0" * 31, "9" * 10000)


def plain_program(memory, text):
    """What reading a text gives: the program, or the error's class and fields."""
    parts = [] if text == "none" else text.split(", ")
    for place, part in enumerate(parts):
        if not COMMAND.fullmatch(part):
            return BadText, {"place": place}
    if len(parts) > 200:
        return BadCount, {"what": "commands", "count": len(parts)}
    commands = []
    for part in parts:
        line, *others = [int(word) for word in part.split()[1:]] or [0]
        if not 0 <= line < len(memory.sizes):
            return NoLine, {"line": line}
        if others and not 0 <= others[0] < memory.sizes[line]:
            return NoWord, {"word": others[0]}
        commands.append(Store(line, *others) if others else Fence() if part == "fence" else Flush(line))
    return Program(memory, commands)


def plain_condition(text):
    if not CONDITION.fullmatch(text):
        return BadText, {"place": 0}
    line, word, *numbers = [int(number) for number in re.split(r"[./=]", text)]
    return Is(line, word, numbers)


def changed_texts(text):
    """All texts with one character left out, and with one inserted or replaced by another of a few."""
    for at in range(len(text) + 1):
        for character in " ,-./=0159efn":
            yield text[:at] + character + text[at:]
            yield text[:at] + character + text[at + 1:]
        yield text[:at] + text[at + 1:]


class TextChecks(Checks):
    def reads(self, wanted, action, *given):
        """Check that a call returns what is wanted, or raises it if it is an error's class with fields."""
        if isinstance(wanted, tuple):
            self.refused(*wanted, action, *given)
        else:
            self.same(action(*given), wanted)

    def bad(self, place, text, memory=Memory([4] * 6)):
        self.refused(BadText, {"place": place}, read_program, memory, text)

    def bad_condition(self, text):
        self.refused(BadText, {"place": 0}, read_condition, text)


class ProgramTextTest(TextChecks):
    def test_no_commands(self):
        self.assertEqual(program_text(Program(Memory([1]), [])), "none")

    def test_commands(self):
        self.assertEqual(program_text(safe()), "store 0 0 1, flush 0, fence, store 1 0 1")
        self.assertEqual(program_text(program=Program(Memory([1]), [Fence()])), "fence")
        self.assertEqual(program_text(Program(Memory([1, 4]), [Store(1, 3, -20), Flush(1)])), "store 1 3 -20, flush 1")
        self.assertEqual(program_text(Program(Memory([1]), [Store(0, 0, int(LEAST))])), "store 0 0 " + LEAST)

    def test_longer_numbers(self):
        for number in (10 ** 31, 10 ** 59 - 1, 10 ** 60, 10 ** 60 + 7, 10 ** 90):
            for sign in (1, -1):
                text = program_text(Program(Memory([1]), [Store(0, 0, sign * number)]))
                self.assertEqual(text, f"store 0 0 {sign * number}")
        text = program_text(Program(Memory([1]), [Store(0, 0, -10 ** 5000)]))
        self.assertEqual(text, "store 0 0 -1" + "0" * 5000)


class ReadProgramTest(TextChecks):
    def test_no_commands(self):
        self.same(read_program(Memory([2]), "none"), Program(Memory([2]), []))

    def test_commands(self):
        memory = Memory([1, 4])
        self.same(read_program(text="store 1 3 -20, flush 1, fence", memory=memory),
                  Program(memory, [Store(1, 3, -20), Flush(1), Fence()]))
        self.same(read_program(memory, "fence"), Program(memory, [Fence()]))

    def test_an_empty_text(self):
        self.bad(0, "")
        self.bad(0, " ")
        self.bad(0, ", ")
        self.bad(0, ",")

    def test_none_among_others(self):
        for text in ("none, fence", " none", "none ", "None", "nonee", "none,", "none, none"):
            self.bad(0, text)
        self.bad(1, "fence, none")

    def test_the_first_bad_part(self):
        self.bad(1, "fence, fenc, fence, fences")
        self.bad(2, "flush 0, fence, store 0 0, fence, flush")
        self.bad(3, "fence, fence, fence, ")
        self.bad(0, ", fence, ")
        self.bad(1, "fence, , fence")
        self.bad(0, "fence,fence")
        self.bad(0, "fence,, fence")
        self.bad(1, "fence, fence,fence, fence")
        self.bad(199, ", ".join(["fence"] * 199 + ["fence "]))

    def test_blanks(self):
        for part in ("store  0 0 1", "store 0  0 1", "store 0 0  1", " store 0 0 1", "store 0 0 1 ", "flush  0", " flush 0",
                     "flush 0 ", "fence ", " fence", "flush ", "flush0", "store0 0 1", "store 0 01", "fen ce"):
            self.bad(0, part)
            self.bad(2, "fence, flush 0, " + part + ", fence")
            self.bad(1, "fence, " + part)

    def test_how_many_words(self):
        for part in ("store", "store 0", "store 0 0", "store 0 0 1 1", "flush", "flush 0 0", "fence 0", "0", "0 0 0",
                     "drop 0", "Fence", "FLUSH 0", "stores 0 0 1"):
            self.bad(0, part)

    def test_numbers(self):
        for number in ("0", "1", "-1", "10", "-10", "900", MOST, LEAST, "1" + "0" * 30):
            self.same(read_program(Memory([1]), f"store 0 0 {number}"), Program(Memory([1]), [Store(0, 0, int(number))]))
        for number in WRONG_NUMBERS:
            self.bad(0, f"store 0 0 {number}")
            self.bad(0, f"store 0 {number} 0")
            self.bad(0, f"store {number} 0 0")
            self.bad(1, f"fence, flush {number}")

    def test_very_many_digits(self):
        self.bad(0, "store 0 0 " + "1" * 10 ** 6)
        self.bad(0, "store 0 0 -" + "1" * 10 ** 6)
        self.bad(0, "flush " + "0" * 10 ** 6)

    def test_wrong_commands(self):
        memory = Memory([1, 2])
        self.refused(NoLine, {"line": 2}, read_program, memory, "fence, flush 2, flush 3")
        self.refused(NoLine, {"line": -1}, read_program, memory, "store -1 7 0")
        self.refused(NoWord, {"word": 1}, read_program, memory, "store 0 1 0, flush 7")
        self.refused(NoLine, {"line": int(MOST)}, read_program, memory, f"flush {MOST}")

    def test_how_many_commands(self):
        memory = Memory([1])
        self.assertEqual(read_program(memory, ", ".join(["fence"] * 200)).commands, (Fence(),) * 200)
        self.refused(BadCount, {"what": "commands", "count": 201}, read_program, memory, ", ".join(["fence"] * 201))
        self.refused(BadCount, {"what": "commands", "count": 201}, read_program, memory, ", ".join(["flush 9"] * 201))

    def test_a_bad_part_comes_before_the_errors_of_the_program(self):
        memory = Memory([1])
        self.bad(1, "flush 9, flush", memory)
        self.bad(201, ", ".join(["flush 9"] * 201 + ["flush"]), memory)

    def test_against_each_other(self):
        for program in short_programs(4) + drawn_programs(300, 41, most_commands=200, most_stores=200):
            self.same(read_program(program.memory, program_text(program)), program)

    def test_changed_texts(self):
        memory = Memory([1, 2])
        for text in ("store 1 0 -10, flush 0, fence", "none", "fence, store 0 0 " + "8" * 31 + ", flush 1", "flush 0, flush 1"):
            for changed in changed_texts(text):
                self.reads(plain_program(memory, changed), read_program, memory, changed)

    def test_drawn_changes(self):
        drawn = Random(42)
        for _ in range(3000):
            memory = Memory([drawn.randrange(1, 5) for _ in range(drawn.randrange(1, 7))])
            text = program_text(Program(memory, [drawn_command(drawn, memory.sizes) for _ in range(drawn.randrange(5))]))
            for _ in range(drawn.randrange(3)):
                at = drawn.randrange(len(text) + 1)
                text = text[:at] + drawn.choice(["", *CHARACTERS]) + text[at + drawn.randrange(2):]
            self.reads(plain_program(memory, text), read_program, memory, text)


class ConditionTextTest(TextChecks):
    def test_text(self):
        self.assertEqual(condition_text(Is(1, 0, [3])), "1.0=3")
        self.assertEqual(condition_text(condition=Is(0, 3, (7, -2, 7, 0, -10))), "0.3=-10/-2/0/7")
        self.assertEqual(condition_text(Is(-1, -20, [0])), "-1.-20=0")
        self.assertEqual(condition_text(Is(0, 0, [int(MOST)])), "0.0=" + MOST)
        self.assertEqual(condition_text(Is(0, 0, [-10 ** 5000])), "0.0=-1" + "0" * 5000)

    def test_read(self):
        self.same(read_condition("1.0=3"), Is(1, 0, [3]))
        self.same(read_condition(text="0.3=7/-2/0/-10"), Is(0, 3, [-10, -2, 0, 7]))
        self.assertEqual(vars(read_condition("1.0=3/-1/3")), {"line": 1, "word": 0, "numbers": (-1, 3)})
        self.same(read_condition("-1.-20=5/5/5"), Is(-1, -20, [5]))
        self.same(read_condition(f"{MOST}.{LEAST}={LEAST}/{MOST}"), Is(int(MOST), int(LEAST), [int(LEAST), int(MOST)]))

    def test_malformed(self):
        for text in ("", " ", "-", "none", "=", ".", ".=", "1.0", "1.0=", "=3", "1=3", "1.=3", ".0=3", "1.0.0=3", "1.0=3/",
                     "1.0=/3", "1.0=3//3", "1.0==3", "1.0=3=3", "1.0=3.3", "1/0=3", "1.0 =3", "1.0= 3", " 1.0=3", "1.0=3 ",
                     "1.0=3, 4", "1.0=3,4", "1.0=3 4", "1.0:3", "1,0=3"):
            self.bad_condition(text)

    def test_numbers(self):
        for number in WRONG_NUMBERS:
            # A point splits the target, and a number with one is a wrong target or a wrong number all the same.
            for text in (f"{number}.0=1", f"0.{number}=1", f"0.0={number}", f"0.0=1/{number}", f"0.0={number}/1"):
                self.bad_condition(text)

    def test_against_each_other(self):
        drawn = Random(43)
        for _ in range(1000):
            for condition in drawn_conditions(drawn, [4] * 6, 4):
                text = condition_text(condition)
                self.same(read_condition(text), condition)
                target, numbers = text.split("=")
                mixed = drawn.choices(numbers.split("/"), k=10) + numbers.split("/")
                drawn.shuffle(mixed)
                self.same(read_condition(target + "=" + "/".join(mixed)), condition)

    def test_changed_texts(self):
        for text in ("1.0=3", "0.2=-1/3/10", "-1.0=0/" + "8" * 31):
            for changed in changed_texts(text):
                self.reads(plain_condition(changed), read_condition, changed)


if __name__ == "__main__":
    unittest.main()
