"""Point 16: Book."""

import unittest
from random import Random

from lateststore.book import Book
from lateststore.errors import BadCount, Empty, NoBack, NoLine, NoName, NoRule, NoWord, StoreError
from lateststore.programs import Fence, Flush, Memory, Program, Store
from lateststore.rules import Is, broken
from tests.helper import Checks, chained, drawn_command, drawn_conditions, plain_broken

ONE, TWO = Is(0, 0, [1]), Is(1, 0, [2, 3])
GOOD_NAMES = ("a", "z", "a0", "z9", "rule", "abcdefgh", "a1234567", "x0y1z2w3")
BAD_NAMES = ("", "0", "0a", "9abc", "A", "Abc", "aBc", "abcdefghi", "a12345678", "a b", " a", "a ", "a-b", "a_b", "_a", "-",
             "->", "a.b", "a" * 1000, "abcdefg!", "~", "@a", "a@", "a`", "`a", "a{", "{a", "a/", "a:")
MOST_NAMES = ("h", "b", "c2", "c10", "c1", "a9", "z", "q")


class Model:
    """A book as plainly as possible: the program, the rules, and all earlier states."""

    def __init__(self, memory):
        self.memory = memory
        self.commands = ()
        self.rules = {}
        self.earlier = []

    def change(self, commands, rules):
        if (commands, rules) != (self.commands, self.rules):
            self.earlier.append((self.commands, self.rules))
            self.commands, self.rules = commands, rules

    def check_conditions(self, conditions):
        for condition in conditions:
            if not 0 <= condition.line < len(self.memory.sizes):
                raise NoLine(condition.line)
            if not 0 <= condition.word < self.memory.sizes[condition.line]:
                raise NoWord(condition.word)

    def add(self, command):
        Program(self.memory, [*self.commands, command])
        self.change((*self.commands, command), self.rules)

    def take(self):
        if not self.commands:
            raise Empty()
        self.change(self.commands[:-1], self.rules)

    def rule(self, name, given, wanted):
        if name not in GOOD_NAMES + MOST_NAMES:
            raise NoName(name)
        if len(set(self.rules) | {name}) > 8:
            raise BadCount("rules", 9)
        self.check_conditions([*given, *wanted])
        self.change(self.commands, {**self.rules, name: (tuple(given), tuple(wanted))})

    def drop(self, name):
        if name not in self.rules:
            raise NoRule(name)
        self.change(self.commands, {other: rule for other, rule in self.rules.items() if other != name})

    def back(self):
        if not self.earlier:
            raise NoBack()
        self.commands, self.rules = self.earlier.pop()

    def state(self, name):
        return plain_broken(Program(self.memory, self.commands), *self.rules[name])

    def seen(self):
        names = sorted(self.rules)
        return (self.commands, names, [self.state(name) for name in names], len(self.earlier))


def seen(book):
    names = book.names()
    return (book.program().commands, names, [book.state(name) for name in names], book.many())


def outcome(action, *given):
    """What a call answers, or its error with its fields."""
    try:
        return action(*given)
    except StoreError as error:
        return error.told(), vars(error)


class BookChecks(Checks):
    def refused_unchanged(self, book, kind, fields, action, *given):
        before = seen(book)
        self.refused(kind, fields, action, *given)
        self.assertEqual(seen(book), before)


class ProgramOfABookTest(BookChecks):
    def test_new(self):
        book = Book(memory=Memory([1, 2]))
        self.same(book.program(), Program(Memory([1, 2]), []))
        self.assertEqual((book.names(), book.many()), ([], 0))

    def test_add(self):
        book = Book(Memory([1, 2]))
        self.assertIsNone(book.add(Store(1, 1, 5)))
        book.add(command=Flush(1))
        book.add(Fence())
        self.same(book.program(), Program(Memory([1, 2]), [Store(1, 1, 5), Flush(1), Fence()]))
        self.assertEqual(book.many(), 3)
        self.assertEqual(vars(book.program()), {"memory": Memory([1, 2]), "commands": (Store(1, 1, 5), Flush(1), Fence())})
        self.assertIs(type(book.program().commands), tuple)

    def test_a_program_stays_as_it_was(self):
        book = Book(Memory([1]))
        book.add(Fence())
        program = book.program()
        book.add(Flush(0))
        self.assertEqual(program.commands, (Fence(),))
        book.take()
        book.take()
        self.assertEqual((program.commands, book.program().commands), ((Fence(),), ()))

    def test_wrong_commands(self):
        book = Book(Memory([1, 2]))
        book.add(Fence())
        for line in (-1, 2, 10 ** 20):
            self.refused_unchanged(book, NoLine, {"line": line}, book.add, Flush(line))
            self.refused_unchanged(book, NoLine, {"line": line}, book.add, Store(line, 9, 0))
        for line, word in ((0, 1), (0, -1), (1, 2)):
            self.refused_unchanged(book, NoWord, {"word": word}, book.add, Store(line, word, 0))

    def test_how_many_commands(self):
        book = Book(Memory([1]))
        for at in range(200):
            book.add(Store(0, 0, at))
        self.assertEqual((len(book.program().commands), book.many()), (200, 200))
        self.refused_unchanged(book, BadCount, {"what": "commands", "count": 201}, book.add, Fence())
        # The number comes before the parts, as in a program.
        self.refused_unchanged(book, BadCount, {"what": "commands", "count": 201}, book.add, Flush(7))
        book.take()
        self.refused_unchanged(book, NoLine, {"line": 7}, book.add, Flush(7))
        book.add(Fence())
        self.assertEqual((len(book.program().commands), book.many()), (200, 202))

    def test_take(self):
        book = Book(Memory([1]))
        self.refused_unchanged(book, Empty, {}, book.take)
        book.add(Store(0, 0, 1))
        book.add(Flush(0))
        self.assertIsNone(book.take())
        self.assertEqual((book.program().commands, book.many()), ((Store(0, 0, 1),), 3))
        book.take()
        self.refused_unchanged(book, Empty, {}, book.take)
        self.assertEqual(book.many(), 4)


class RulesOfABookTest(BookChecks):
    def full(self):
        book = Book(Memory([1, 1]))
        for name in MOST_NAMES:
            book.rule(name, [ONE], [])
        return book

    def test_names(self):
        for name in GOOD_NAMES:
            book = Book(Memory([1]))
            self.assertIsNone(book.rule(name, [], []))
            self.assertEqual((book.names(), book.many()), ([name], 1))
        book = Book(Memory([1]))
        for name in BAD_NAMES:
            self.refused_unchanged(book, NoName, {"name": name}, book.rule, name, [], [])
            self.refused_unchanged(book, NoRule, {"name": name}, book.drop, name)
            self.refused_unchanged(book, NoRule, {"name": name}, book.state, name)

    def test_all_characters_of_names(self):
        letters, digits = "abcdefghijklmnopqrstuvwxyz", "0123456789"
        for code in range(32, 127):
            first, later = Book(Memory([1])), Book(Memory([1]))
            one, two = chr(code), "a" + chr(code)
            for book, name, allowed in ((first, one, letters), (later, two, letters + digits)):
                if chr(code) in allowed:
                    book.rule(name, [], [])
                else:
                    self.refused(NoName, {"name": name}, book.rule, name, [], [])

    def test_names_in_ascending_order(self):
        book = self.full()
        found = book.names()
        self.assertIs(type(found), list)
        self.assertEqual(found, ["a9", "b", "c1", "c10", "c2", "h", "q", "z"])
        found.clear()
        self.assertEqual(len(book.names()), 8)

    def test_a_ninth_name(self):
        book = self.full()
        for name in ("a", "zz", "a8"):
            self.refused_unchanged(book, BadCount, {"what": "rules", "count": 9}, book.rule, name, [], [])
        # A name in use has only seven others beside it.
        for name in MOST_NAMES:
            book.rule(name, [], [TWO])
        self.assertEqual(book.many(), 16)
        book.drop("q")
        book.rule("a", [], [])
        self.refused_unchanged(book, BadCount, {"what": "rules", "count": 9}, book.rule, "q", [], [])

    def test_which_comes_first(self):
        book = self.full()
        wrong = [Is(9, 0, [0])]
        self.refused_unchanged(book, NoName, {"name": "Q"}, book.rule, "Q", wrong, wrong)
        self.refused_unchanged(book, BadCount, {"what": "rules", "count": 9}, book.rule, "new", wrong, wrong)
        self.refused_unchanged(book, NoLine, {"line": 9}, book.rule, "q", wrong, [Is(0, 1, [0])])
        self.refused_unchanged(book, NoWord, {"word": 1}, book.rule, "q", [Is(0, 1, [0])], wrong)
        self.refused_unchanged(book, NoWord, {"word": -1}, book.rule, "q", [ONE, Is(1, -1, [0]), Is(-1, 0, [0])], [])
        self.refused_unchanged(book, NoLine, {"line": 2}, book.rule, "q", [ONE], [TWO, Is(2, 5, [0]), Is(0, 5, [0])])

    def test_equal_conditions_change_nothing(self):
        book = Book(Memory([1, 1]))
        book.rule("a", [ONE, TWO], [ONE])
        self.assertIsNone(book.rule("a", (Is(0, 0, [1, 1]), Is(1, 0, (3, 2))), (Is(0, 0, [1]),)))
        self.assertEqual(book.many(), 1)
        for at, (given, wanted) in enumerate((([TWO, ONE], [ONE]), ([TWO, ONE], [ONE, ONE]), ([TWO], [ONE, ONE]), ([], []),
                                              ([ONE], []), ([], [ONE]), ([Is(0, 0, [1, 2])], []), ([ONE, TWO], [ONE]))):
            book.rule("a", given, wanted)
            self.assertEqual(book.many(), at + 2)
            book.rule("a", tuple(given), tuple(wanted))
            self.assertEqual(book.many(), at + 2)
        book.rule("b", [ONE, TWO], [ONE])
        self.assertEqual(book.many(), 10)

    def test_empty_conditions_are_stored_too(self):
        book = Book(Memory([1]))
        book.rule("a", [], [])
        book.rule("a", (), ())
        self.assertEqual((book.names(), book.many(), book.state("a")), (["a"], 1, None))

    def test_later_changes_have_no_effect(self):
        book = Book(Memory([1, 1]))
        given, wanted, numbers = [Is(1, 0, [2])], [], [1]
        book.add(Store(1, 0, 2))
        book.rule(name="a", given=given, wanted=wanted)
        given.clear()
        wanted.append(Is(0, 0, numbers))
        numbers.append(0)
        self.assertIsNone(book.state("a"))
        book.rule("a", [Is(1, 0, [2])], [Is(0, 0, [1])])
        self.assertEqual(book.state("a"), (0, 1))

    def test_drop(self):
        book = self.full()
        self.assertIsNone(book.drop(name="c10"))
        self.assertEqual((len(book.names()), book.many()), (7, 9))
        self.refused_unchanged(book, NoRule, {"name": "c10"}, book.drop, "c10")
        self.refused_unchanged(book, NoRule, {"name": "c10"}, book.state, "c10")
        # A rule that was dropped is no longer there to be equal to.
        book.rule("c10", [ONE], [])
        self.assertEqual((len(book.names()), book.many()), (8, 10))

    def test_state(self):
        book = Book(Memory([1, 1]))
        book.rule("a", [Is(1, 0, [1])], [Is(0, 0, [1])])
        states = [book.state("a")]
        for command in (Store(0, 0, 1), Store(1, 0, 1)):
            book.add(command)
            states.append(book.state(name="a"))
        self.assertEqual(states, [None, None, (0, 1)])
        self.assertIs(type(book.state("a")), tuple)
        for command in (Flush(0), Fence()):
            book.take()
            book.add(command)
            book.add(Store(1, 0, 1))
        self.assertIsNone(book.state("a"))

    def test_state_of_the_largest_book(self):
        program = chained(33)
        book = Book(program.memory)
        for command in program.commands:
            book.add(command)
        for at, name in enumerate(MOST_NAMES):
            given = [Is(line, 0, [at + 2]) for line in range(1, 6)]
            wanted = [Is(line, 0, range(at + 20)) for line in range(6)]
            book.rule(name, given, wanted)
            self.assertEqual(book.state(name), (at + 21,) + (at + 3,) * 5)
            self.assertEqual(book.state(name), broken(program, given, wanted))


class BackTest(BookChecks):
    def test_nothing_to_undo(self):
        book = Book(Memory([1]))
        self.refused_unchanged(book, NoBack, {}, book.back)
        book.rule("a", [], [])
        self.assertIsNone(book.back())
        self.refused_unchanged(book, NoBack, {}, book.back)

    def test_each_kind(self):
        book = Book(Memory([1, 1]))
        before = [seen(book)]
        changes = ((book.add, Store(1, 0, 2)), (book.rule, "a", [TWO], [ONE]), (book.rule, "b", [], []), (book.take,),
                   (book.rule, "a", [], [ONE]), (book.drop, "b"), (book.add, Fence()), (book.drop, "a"),
                   (book.rule, "b", [ONE], []), (book.add, Flush(0)), (book.take,))
        for action, *given in changes:
            action(*given)
            before.append(seen(book))
        self.assertEqual([state[-1] for state in before], list(range(12)))
        while book.many():
            self.assertEqual(seen(book), before.pop())
            book.back()
        self.assertEqual([seen(book)], before)

    def test_what_changed_nothing_is_not_undone(self):
        book = Book(Memory([1]))
        book.add(Flush(0))
        book.rule("a", [ONE], [])
        book.rule("a", [ONE], [])
        self.refused(NoLine, {"line": 1}, book.add, Flush(1))
        self.refused(NoRule, {"name": "b"}, book.drop, "b")
        book.back()
        self.assertEqual((book.names(), book.program().commands, book.many()), ([], (Flush(0),), 1))

    def test_after_undoing_other_changes_follow(self):
        book = Book(Memory([1]))
        book.add(Flush(0))
        book.add(Fence())
        book.back()
        book.add(Store(0, 0, 1))
        self.assertEqual((book.program().commands, book.many()), ((Flush(0), Store(0, 0, 1)), 2))
        book.back()
        book.back()
        self.assertEqual((book.program().commands, book.many()), ((), 0))

    def test_a_rule_that_was_there_before(self):
        book = Book(Memory([1]))
        book.add(Store(0, 0, 5))
        book.rule("a", [], [Is(0, 0, [0])])
        book.rule("a", [], [Is(0, 0, [5])])
        self.assertEqual(book.state("a"), (0,))
        book.back()
        self.assertEqual(book.state("a"), (1,))
        book.drop("a")
        book.back()
        self.assertEqual((book.state("a"), book.many()), ((1,), 2))

    def test_undoing_among_eight_rules(self):
        book = Book(Memory([1]))
        for name in MOST_NAMES:
            book.rule(name, [], [])
        book.drop("z")
        book.rule("new", [], [])
        book.back()
        book.back()
        self.assertEqual(book.names(), sorted(MOST_NAMES))
        self.refused_unchanged(book, BadCount, {"what": "rules", "count": 9}, book.rule, "new", [], [])

    def test_very_many_changes(self):
        book = Book(Memory([1]))
        for _ in range(20):
            for _ in range(200):
                book.add(Fence())
            for _ in range(200):
                book.take()
        self.assertEqual(book.many(), 8000)
        for _ in range(100):
            book.back()
        self.assertEqual((len(book.program().commands), book.many()), (100, 7900))


class AgainstTheModelTest(BookChecks):
    def drawn_call(self, drawn, sizes, model):
        """The name of a method and its arguments, now and then wrong ones."""
        kind = drawn.randrange(10)
        if kind < 3 and len([c for c in model.commands if isinstance(c, Store)]) < 6:
            command = drawn_command(drawn, sizes)
            return "add", drawn.choice([command] * 9 + [Flush(len(sizes)), Store(-1, 0, 0), Store(0, 4, 0)])
        if kind < 4:
            return ("take",)
        if kind < 7:
            name = drawn.choice(GOOD_NAMES * 2 + MOST_NAMES + BAD_NAMES[:8])
            given, wanted = drawn_conditions(drawn, sizes, 2), drawn_conditions(drawn, sizes, 2)
            if name in model.rules and drawn.randrange(2):
                given, wanted = model.rules[name]
            if drawn.randrange(8) == 0:
                given = [*given, drawn.choice([Is(len(sizes), 0, [0]), Is(0, sizes[0], [0])])]
            if drawn.randrange(8) == 0:
                wanted = [drawn.choice([Is(-1, 0, [0]), Is(0, -1, [0])]), *wanted]
            return "rule", name, given, wanted
        if kind < 8:
            return "drop", drawn.choice(sorted(model.rules) + ["a", "unused", ""])
        return ("back",) if drawn.randrange(2) else ("take",)

    def test_drawn_calls(self):
        drawn = Random(51)
        refused = {}
        for _ in range(60):
            sizes = [drawn.randrange(1, 5) for _ in range(drawn.randrange(1, 4))]
            book, model = Book(Memory(sizes)), Model(Memory(sizes))
            for _ in range(60):
                name, *given = self.drawn_call(drawn, sizes, model)
                found = outcome(getattr(book, name), *given)
                self.assertEqual(found, outcome(getattr(model, name), *given))
                self.assertEqual(seen(book), model.seen())
                if found is not None:
                    refused[found[0]] = refused.get(found[0], 0) + 1
            while model.earlier:
                book.back()
                model.back()
                self.assertEqual(seen(book), model.seen())
            self.refused(NoBack, {}, book.back)
        # All refusals have come, and often.
        self.assertEqual(sorted(refused), sorted(f"refused {word}" for word in (
            "badcount", "empty", "noback", "noline", "noname", "norule", "noword")))
        self.assertGreater(min(refused.values()), 5)


if __name__ == "__main__":
    unittest.main()
