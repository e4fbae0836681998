"""A program that grows and named rules, with all changes kept to be undone."""

from lateststore.errors import BadCount, Empty, NoBack, NoName, NoRule
from lateststore.programs import Program, check_commands
from lateststore.rules import broken, check_conditions

MOST_RULES = 8
MOST_CHARACTERS = 8
LETTERS = "abcdefghijklmnopqrstuvwxyz"
DIGITS = "0123456789"


def is_name(name):
    """Return whether a name is a valid one."""
    if not 1 <= len(name) <= MOST_CHARACTERS or name[0] not in LETTERS:
        return False
    return all([character in LETTERS or character in DIGITS for character in name])


class Book:
    """A program and rules for it."""

    def __init__(self, memory):
        self.memory = memory
        self.commands = []
        self.rules = {}
        # For each change what brings it back: the name, None for a command, and what was there, None for nothing.
        self.changes = []

    def add(self, command):
        """Append a command to the program."""
        check_commands(self.memory, self.commands + [command])
        self.commands.append(command)
        self.changes.append((None, None))

    def take(self):
        """Remove the last command of the program."""
        if not self.commands:
            raise Empty()
        self.changes.append((None, self.commands.pop()))

    def program(self):
        """Return the program as it is now."""
        return Program(self.memory, self.commands)

    def rule(self, name, given, wanted):
        """Store the conditions of a rule under a name."""
        if not is_name(name):
            raise NoName(name)
        if name not in self.rules and len(self.rules) >= MOST_RULES:
            raise BadCount("rules", MOST_RULES + 1)
        check_conditions(self.memory, given)
        check_conditions(self.memory, wanted)
        before = self.rules.get(name)
        after = (tuple(given), tuple(wanted))
        if before != after:
            self.rules[name] = after
            self.changes.append((name, before))

    def drop(self, name):
        """Remove the rule of a name."""
        before = self.conditions_of(name)
        del self.rules[name]
        self.changes.append((name, before))

    def conditions_of(self, name):
        """Return the given and the wanted conditions of a rule."""
        if name not in self.rules:
            raise NoRule(name)
        return self.rules[name]

    def names(self):
        """Return the list of all names in use, in ascending order."""
        return sorted(self.rules)

    def state(self, name):
        """Return the first possible image that breaks a rule, or None."""
        given, wanted = self.conditions_of(name)
        return broken(self.program(), given, wanted)

    def many(self):
        """Return the number of changes that can be undone."""
        return len(self.changes)

    def back(self):
        """Undo the last change."""
        if not self.changes:
            raise NoBack()
        name, before = self.changes.pop()
        if name is None:
            self.bring_back_command(before)
        elif before is None:
            del self.rules[name]
        else:
            self.rules[name] = before

    def bring_back_command(self, command):
        """Append a command that was taken, or remove the one that was added if there is none to append."""
        if command is None:
            self.commands.pop()
        else:
            self.commands.append(command)
