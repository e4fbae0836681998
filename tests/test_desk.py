"""Point 18: Desk."""

import re
import unittest
from random import Random

from lateststore.book import Book
from lateststore.desk import Desk
from lateststore.errors import StoreError
from lateststore.images import count, cuts, image_at
from lateststore.likeness import needless
from lateststore.orders import breach
from lateststore.programs import Fence, Flush, Memory, Store
from lateststore.programtexts import condition_text, program_text
from lateststore.rules import Is
from tests.helper import Checks, drawn_conditions, drawn_programs

NUMBER = r"(?:0|-?[1-9][0-9]{0,30})"
CONDITION = rf"{NUMBER}\.{NUMBER}={NUMBER}(?:/{NUMBER})*"
CONDITIONS = rf"(?:-|{CONDITION}(?: {CONDITION})*)"
FORMS = {kind: re.compile(form) for kind, form in {
    "add": rf"add (store {NUMBER} {NUMBER} {NUMBER}|flush {NUMBER}|fence)", "take": "take", "back": "back",
    "rule": rf"rule ([^ ]+) ({CONDITIONS}) -> ({CONDITIONS})", "drop": "drop ([^ ]+)", "program": "program",
    "count": "count", "names": "names", "state": "state ([^ ]+)", "image": rf"image ({NUMBER})",
    "cuts": rf"cuts ({NUMBER}(?: {NUMBER})*)", "holds": rf"holds ({NUMBER}) ({NUMBER})", "needless": "needless",
}.items()}
ALONE = ("take", "back", "program", "count", "names", "needless")
WRONG_NUMBERS = ("-", "--1", "-0", "00", "01", "+1", "1-", "1.0", "a", "1_0", "1" * 32, "-" + "1" * 32, "9" * 10000)


def plain_command(text):
    kind, *numbers = text.split()
    return {"store": Store, "flush": Flush, "fence": Fence}[kind](*map(int, numbers))


def plain_conditions(text):
    parts = [] if text == "-" else text.split()
    numbers = [[int(number) for number in re.split(r"[./=]", part)] for part in parts]
    return [Is(line, word, others) for line, word, *others in numbers]


def spaced(numbers):
    return " ".join(map(str, numbers))


def plain_answer(book, kind, given):
    """What the document says a well-formed command is answered, by a book and the functions."""
    program = book.program()
    if kind == "add":
        book.add(plain_command(given[0]))
    elif kind == "rule":
        book.rule(given[0], plain_conditions(given[1]), plain_conditions(given[2]))
    elif kind in ("take", "back", "drop"):
        getattr(book, kind)(*given)
    elif kind == "state":
        image = book.state(given[0])
        return ["holds"] if image is None else ["broken " + spaced(image)]
    elif kind == "image":
        return [spaced(image_at(program, int(given[0])))]
    elif kind == "cuts":
        times = cuts(program, [int(number) for number in given[0].split()])
        return ["none"] if times is None else [spaced(times)]
    elif kind == "holds":
        image = breach(program, [int(number) for number in given])
        return ["yes"] if image is None else ["no " + spaced(image)]
    else:
        return {"program": lambda: [program_text(program)], "count": lambda: [str(count(program))],
                "names": book.names, "needless": lambda: [spaced(needless(program)) or "none"]}[kind]()
    return ["done"]


def plain_tell(book, row):
    for kind, form in FORMS.items():
        found = form.fullmatch(row)
        if found:
            try:
                return plain_answer(book, kind, found.groups())
            except StoreError as error:
                return ["refused " + error.__class__.__name__.lower()]
    return ["refused badtext"]


class DeskChecks(Checks):
    def told(self, desk, *pairs):
        for row, answer in pairs:
            self.assertEqual(desk.tell(row), [answer], row)

    def badtext(self, *rows):
        """Check that rows are refused, of a desk on which nothing else would be refused for its state."""
        desk = Desk(Memory([1, 1]))
        self.told(desk, ("add store 0 0 1", "done"), ("add flush 0", "done"), ("rule a 0.0=1 -> -", "done"))
        before = self.seen(desk)
        for row in rows:
            self.assertEqual(desk.tell(row), ["refused badtext"], row)
        self.assertEqual(self.seen(desk), before)

    def seen(self, desk):
        """All that a desk tells of its state without a change to it."""
        names = desk.tell("names")
        return desk.tell("program"), desk.tell("count"), names, [desk.tell("state " + name) for name in names]


class CommandsTest(DeskChecks):
    def test_new(self):
        self.told(Desk(memory=Memory([1, 2])), ("program", "none"), ("count", "1"), ("needless", "none"), ("image 0", "0 0"),
                  ("cuts 0 0", "0 0"), ("take", "refused empty"), ("back", "refused noback"))
        self.assertEqual(Desk(Memory([1])).tell(row="names"), [])

    def test_add_and_take(self):
        desk = Desk(Memory([1, 4]))
        self.told(desk, ("add store 1 3 -20", "done"), ("add flush 1", "done"), ("add fence", "done"),
                  ("program", "store 1 3 -20, flush 1, fence"), ("take", "done"), ("program", "store 1 3 -20, flush 1"),
                  ("take", "done"), ("take", "done"), ("program", "none"), ("take", "refused empty"))

    def test_add_refused(self):
        desk = Desk(Memory([1, 2]))
        self.told(desk, ("add flush 2", "refused noline"), ("add flush -1", "refused noline"),
                  ("add store 0 1 5", "refused noword"), ("add store 2 7 5", "refused noline"), ("program", "none"))

    def test_how_many_commands(self):
        desk = Desk(Memory([1]))
        for _ in range(200):
            self.told(desk, ("add store 0 0 1", "done"))
        self.told(desk, ("add fence", "refused badcount"), ("add flush 7", "refused badcount"), ("count", "201"),
                  ("image 200", "200"), ("cuts 200", "200 200"), ("add flush", "refused badtext"))

    def test_rules(self):
        desk = Desk(Memory([1, 1]))
        self.told(desk, ("rule b 1.0=1 -> 0.0=1", "done"), ("rule a - -> 0.0=0/1 1.0=-1/0", "done"), ("rule c - -> -", "done"))
        self.assertEqual(desk.tell("names"), ["a", "b", "c"])
        self.told(desk, ("add store 0 0 1", "done"), ("add store 1 0 1", "done"), ("state a", "broken 0 1"),
                  ("state b", "broken 0 1"), ("state c", "holds"), ("rule b 1.0=2/3 0.0=1 -> 0.0=1", "done"),
                  ("state b", "holds"), ("drop b", "done"), ("state b", "refused norule"), ("drop b", "refused norule"))
        self.assertEqual(desk.tell("names"), ["a", "c"])

    def test_rules_refused(self):
        desk = Desk(Memory([1, 2]))
        self.told(desk, ("rule A - -> -", "refused noname"), ("rule 0 - -> -", "refused noname"),
                  ("rule abcdefghi - -> -", "refused noname"), ("rule -> - -> -", "refused noname"),
                  ("rule - - -> -", "refused noname"), ("rule a,b - -> -", "refused noname"),
                  ("rule a 2.0=1 -> 0.1=1", "refused noline"), ("rule a 0.1=1 -> 2.0=1", "refused noword"),
                  ("rule a - -> -1.0=1", "refused noline"), ("rule a 0.0=1 1.-1=1 -> -", "refused noword"),
                  ("state A", "refused norule"), ("drop ->", "refused norule"), ("state -", "refused norule"))
        self.assertEqual(desk.tell("names"), [])
        for name in "abcdefgh":
            self.told(desk, (f"rule {name} - -> -", "done"))
        self.told(desk, ("rule i 9.0=1 -> -", "refused badcount"), ("rule I - -> -", "refused noname"),
                  ("rule h - -> 0.0=0", "done"), ("rule i - ->", "refused badtext"))

    def test_back(self):
        desk = Desk(Memory([1]))
        self.told(desk, ("add fence", "done"), ("rule a - -> -", "done"), ("rule a - -> -", "done"), ("take", "done"),
                  ("drop a", "done"), ("back", "done"), ("state a", "holds"), ("program", "none"), ("back", "done"),
                  ("program", "fence"), ("back", "done"))
        self.assertEqual(desk.tell("names"), [])
        self.told(desk, ("back", "done"), ("program", "none"), ("back", "refused noback"))

    def test_images(self):
        desk = Desk(Memory([1, 1]))
        self.told(desk, ("add store 0 0 1", "done"), ("add store 1 0 1", "done"), ("count", "4"), ("image 0", "0 0"),
                  ("image 1", "1 0"), ("image 2", "0 1"), ("image 3", "1 1"), ("image 4", "refused noplace"),
                  ("image -1", "refused noplace"), (f"image {'9' * 31}", "refused noplace"))
        self.told(desk, ("cuts 0 0", "0 2"), ("cuts 1 0", "1 2"), ("cuts 0 1", "2 2"), ("cuts 0 2", "refused noimage"),
                  ("cuts -1 0", "refused noimage"), ("cuts 0", "refused noimage"), ("cuts 0 0 0", "refused noimage"))

    def test_an_image_that_no_cut_leaves(self):
        desk = Desk(Memory([1, 1]))
        for row in ("add store 0 0 1", "add flush 0", "add fence", "add store 1 0 1"):
            self.told(desk, (row, "done"))
        self.told(desk, ("cuts 0 1", "none"), ("cuts 1 0", "1 4"), ("count", "3"), ("needless", "none"))

    def test_holds(self):
        desk = Desk(Memory([1, 1]))
        self.told(desk, ("holds 0 0", "refused nostore"), ("add store 0 0 1", "done"), ("add store 1 0 1", "done"),
                  ("holds 0 1", "no 0 1"), ("holds 1 0", "no 1 0"), ("holds 0 0", "yes"), ("holds 0 2", "refused nostore"),
                  ("holds -1 0", "refused nostore"), ("take", "done"), ("add store 0 0 1", "done"), ("holds 0 1", "yes"))

    def test_needless(self):
        desk = Desk(Memory([1, 1]))
        for row in ("add store 0 0 1", "add flush 0", "add flush 0", "add fence", "add store 1 0 1", "add fence"):
            self.told(desk, (row, "done"))
        self.told(desk, ("needless", "1 2 5"), ("take", "done"), ("needless", "1 2"))

    def test_long_numbers(self):
        desk = Desk(Memory([1]))
        most, least = "9" * 31, "-" + "9" * 31
        self.told(desk, (f"add store 0 0 {most}", "done"), (f"add store 0 0 {least}", "done"),
                  ("program", f"store 0 0 {most}, store 0 0 {least}"), (f"rule a 0.0={least}/{most} -> 0.0={least}", "done"),
                  ("state a", "broken 1"), (f"add flush {most}", "refused noline"), (f"holds {most} 0", "refused nostore"))

    def test_answers_are_new_lists_of_strings(self):
        desk = Desk(Memory([1]))
        self.told(desk, ("rule a - -> -", "done"), ("add store 0 0 1", "done"))
        for row in ("names", "program", "count", "take", "nothing", "state a", "image 0", "cuts 0", "needless"):
            found = desk.tell(row)
            self.assertIs(type(found), list)
            self.assertEqual([type(part) for part in found], [str])
            found.append("more")
        self.assertEqual(desk.tell("names"), ["a"])


class MalformedTest(DeskChecks):
    def test_unknown_commands(self):
        self.badtext("", " ", "  ", "nothing", "Add fence", "TAKE", "tak", "takes", "fence", "store 0 0 1", "none", "many", "->",
                     "-", "0", "add,fence", "refused", "tell", "Empty", "__init__", "made 0", "add fence, take")

    def test_blanks(self):
        for row in ("add store 0 0 1", "add fence", "take", "rule b 0.0=1 -> -", "drop a", "back", "program", "count", "names",
                    "state a", "image 0", "cuts 0 0", "holds 0 0", "needless"):
            self.badtext(" " + row, row + " ", "  " + row, row + "  ")
            for at, character in enumerate(row):
                if character == " ":
                    self.badtext(row[:at] + " " + row[at:], row[:at] + row[at + 1:])

    def test_how_many_words(self):
        for kind in ALONE:
            self.badtext(kind + " 0", kind + " a", kind + " " + kind, kind + " -")
        self.badtext("drop", "drop a a", "state", "state a a", "image", "image 0 0", "cuts", "holds", "holds 0", "holds 0 0 0")

    def test_add(self):
        self.badtext("add", "add none", "add store", "add store 0 0", "add store 0 0 0 0", "add flush", "add flush 0 0",
                     "add fence 0", "add fences", "add Fence", "add add fence", "add take", "add fence, fence", "add fence,")

    def test_rule(self):
        self.badtext("rule", "rule b", "rule b -", "rule b ->", "rule b - -", "rule b - ->", "rule b -> -", "rule -> -",
                     "rule - -> ", "rule - ->", "rule b 0.0=1 0.0=1", "rule b 0.0=1 -> - 0.0=1", "rule b - 0.0=1 -> -",
                     "rule b 0.0=1 - -> -", "rule b - - -> -", "rule b - -> - -", "rule b 0.0=1 -> 0.0=1 -> 0.0=1",
                     "rule b -> 0.0=1 ->", "rule b - -> 0.0=", "rule b 0.0 -> -", "rule b 0=1 -> -", "rule b 0.0=1, -> -",
                     "rule b 0.0=1/ -> -", "rule b 0.0=01 -> -", "rule b 0.0=-0 -> -", "rule b - => -", "rule b --> -",
                     "rule b c - -> -", "rule b 0.0=1-> -", "rule b 0.0=1 ->-")

    def test_numbers(self):
        for number in WRONG_NUMBERS:
            self.badtext(f"image {number}", f"cuts {number} 0", f"cuts 0 {number}", f"cuts 0 0 {number}", f"holds {number} 0",
                         f"holds 0 {number}", f"add flush {number}", f"add store 0 0 {number}", f"rule b 0.0={number} -> -",
                         f"rule b - -> {number}.0=1")

    def test_before_anything_else(self):
        desk = Desk(Memory([1]))
        self.told(desk, ("take 0", "refused badtext"), ("back 0", "refused badtext"), ("drop nothing at", "refused badtext"),
                  ("rule TOOLONGNAME 9.0=1 -> 9", "refused badtext"), ("rule A 9.0=1 -> 0.0=", "refused badtext"),
                  ("add flush 9 9", "refused badtext"), ("add store 9 9 -0", "refused badtext"),
                  ("image 99 00", "refused badtext"), ("cuts 9 9 9 01", "refused badtext"), ("holds 9 00", "refused badtext"))
        for _ in range(200):
            desk.tell("add fence")
        self.told(desk, ("add fence fence", "refused badtext"), ("add store 0 0", "refused badtext"))

    def test_a_refused_command_changes_nothing(self):
        desk = Desk(Memory([1, 1]))
        rows = ("add store 0 0 1", "rule a 0.0=1 -> 1.0=1", "add store 1 0 1", "drop a", "rule b - -> 0.0=0", "take")
        refused = ("add flush 9", "add store 0 1 1", "rule A - -> -", "rule a 9.0=1 -> -", "rule b - -> 0.9=1", "drop c",
                   "state c", "nothing", "image 99", "cuts 9", "holds 9 9", "rule b - -> 0.0=0 ->", "add fence,", "take back")
        states = [self.seen(desk)]
        for row in rows:
            self.told(desk, (row, "done"))
            states.append(self.seen(desk))
            for wrong in refused:
                self.assertEqual(desk.tell(wrong)[0].split(" ")[0], "refused", wrong)
                self.assertEqual(self.seen(desk), states[-1])
        # Each refused command is no change that back could undo.
        for state in reversed(states[:-1]):
            self.told(desk, ("back", "done"))
            self.assertEqual(self.seen(desk), state)
        self.told(desk, ("back", "refused noback"))


class AgainstABookTest(DeskChecks):
    def drawn_row(self, drawn, memory, command):
        """A row of some kind, mostly one that is not refused."""
        sizes = memory.sizes
        name = drawn.choice(("a", "b", "c1", "d", "e", "f", "g", "h", "rule9", "A", "->"))
        texts = [" ".join(map(condition_text, drawn_conditions(drawn, sizes, 2))) or "-" for _ in range(2)]
        number = drawn.randrange(-1, 6)
        rows = [f"add {command}"] * 4 + [f"rule {name} {texts[0]} -> {texts[1]}"] * 4 + [f"state {name}"] * 2 + [
            "take", "back", f"drop {name}", "program", "count", "names", "needless", f"image {drawn.randrange(-1, 12)}",
            "cuts " + spaced(drawn.randrange(3) for _ in sizes), f"cuts {number}", f"holds {number} {drawn.randrange(4)}"]
        return drawn.choice(rows)

    def changed_row(self, drawn, row):
        at = drawn.randrange(len(row) + 1)
        return row[:at] + drawn.choice(["", *" -.=>/019,ae"]) + row[at + drawn.randrange(2):]

    def test_drawn_rows(self):
        drawn = Random(61)
        answers = {}
        for program in drawn_programs(150, 62, most_commands=14, most_stores=7):
            desk, book = Desk(program.memory), Book(program.memory)
            texts = program_text(program).split(", ") + ["flush 6", "store 0 4 1"]
            for _ in range(60):
                row = self.drawn_row(drawn, program.memory, drawn.choice(texts))
                if drawn.randrange(5) == 0:
                    row = self.changed_row(drawn, row)
                found = desk.tell(row)
                self.assertEqual(found, plain_tell(book, row), row)
                for part in found:
                    answers[part] = answers.get(part, 0) + 1
        for word in ("noline", "noword", "noimage", "noplace", "nostore", "noname", "norule", "empty", "noback", "badtext"):
            self.assertGreater(answers["refused " + word], 5, word)

    def test_any_strings(self):
        drawn = Random(63)
        words = ["add", "store", "flush", "fence", "take", "rule", "drop", "back", "program", "count", "names", "state", "image",
                 "cuts", "holds", "needless", "->", "-", "a", "B", "0", "1", "-1", "0.0=1", "1.0=0/2", "none", "", ",", "fence,"]
        signs = [chr(code) for code in range(32, 127) if chr(code) != "%"]
        desk, book = Desk(Memory([1, 1])), Book(Memory([1, 1]))
        for at in range(4000):
            parts = drawn.choices(words if at % 2 else signs, k=drawn.randrange(7))
            row = (" " if at % 2 else "").join(parts)
            self.assertEqual(desk.tell(row), plain_tell(book, row), row)

    def test_rows_with_one_change(self):
        rows = ("add store 0 0 -1", "add flush 10", "add fence", "take", "rule a 0.0=1/2 -> 1.0=-1 0.0=0", "rule b - -> -",
                "drop a", "state b", "image 2", "cuts 0 1", "holds 1 0", "needless", "names", "count", "program", "back")
        desk, book = Desk(Memory([1, 1])), Book(Memory([1, 1]))
        for row in rows:
            for at in range(len(row) + 1):
                for text in ("", *" -.=>/,10a"):
                    for changed in (row[:at] + text + row[at:], row[:at] + text + row[at + 1:]):
                        self.assertEqual(desk.tell(changed), plain_tell(book, changed), changed)


if __name__ == "__main__":
    unittest.main()
