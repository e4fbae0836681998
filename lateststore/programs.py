"""Memories, commands and programs, and what is made and sure at a time."""

from lateststore.errors import BadCount, NoLine, NoTime, NoWord, OtherMemory

MOST_LINES = 6
MOST_WORDS = 4
MOST_COMMANDS = 200


class Memory:
    """Lines with a number of words each; all words are 0 at first."""

    def __init__(self, sizes):
        check_sizes(sizes)
        self.sizes = tuple(sizes)

    def __eq__(self, other):
        return isinstance(other, Memory) and self.sizes == other.sizes


class Store:
    """The command that writes a number into a word."""

    def __init__(self, line, word, number):
        self.line = line
        self.word = word
        self.number = number

    def __eq__(self, other):
        return (isinstance(other, Store) and self.line == other.line
                and self.word == other.word and self.number == other.number)


class Flush:
    """The command that starts to make the stores of a line durable."""

    def __init__(self, line):
        self.line = line

    def __eq__(self, other):
        return isinstance(other, Flush) and self.line == other.line


class Fence:
    """The command that waits for all flushes before it."""

    def __eq__(self, other):
        return isinstance(other, Fence)


class Program:
    """A sequence of commands for a memory."""

    def __init__(self, memory, commands):
        check_commands(memory, commands)
        self.memory = memory
        self.commands = tuple(commands)

    def __eq__(self, other):
        return (isinstance(other, Program) and self.memory == other.memory
                and self.commands == other.commands)

    def __add__(self, other):
        if self.memory != other.memory:
            raise OtherMemory()
        return Program(self.memory, self.commands + other.commands)


def check_sizes(sizes):
    if not 1 <= len(sizes) <= MOST_LINES:
        raise BadCount("lines", len(sizes))
    for size in sizes:
        if not 1 <= size <= MOST_WORDS:
            raise BadCount("words", size)


def check_line(memory, line):
    if not 0 <= line < len(memory.sizes):
        raise NoLine(line)


def check_word(memory, line, word):
    """Check a line and then a word of it."""
    check_line(memory, line)
    if not 0 <= word < memory.sizes[line]:
        raise NoWord(word)


def check_command(memory, command):
    if isinstance(command, Store):
        check_word(memory, command.line, command.word)
    elif isinstance(command, Flush):
        check_line(memory, command.line)


def check_commands(memory, commands):
    if len(commands) > MOST_COMMANDS:
        raise BadCount("commands", len(commands))
    for command in commands:
        check_command(memory, command)


def check_time(program, time):
    if not 0 <= time <= len(program.commands):
        raise NoTime(time)


def stores(program):
    """Return the list of the program's stores."""
    return [command for command in program.commands if isinstance(command, Store)]


def progress(program):
    """Return the list of the pairs (made, sure) of all times."""
    done = [0] * len(program.memory.sizes)
    flushed = list(done)
    safe = list(done)
    rows = [(tuple(done), tuple(safe))]
    for command in program.commands:
        if isinstance(command, Store):
            done[command.line] += 1
        elif isinstance(command, Flush):
            flushed[command.line] = done[command.line]
        else:
            # The latest flush of a line came after the most stores, so the earlier ones do not matter.
            safe = list(flushed)
        rows.append((tuple(done), tuple(safe)))
    return rows


def made(program, time):
    """Return for each line the number of stores to it before a time."""
    check_time(program, time)
    return progress(program)[time][0]


def sure(program, time):
    """Return for each line how many of its stores are surely durable at a time."""
    check_time(program, time)
    return progress(program)[time][1]
