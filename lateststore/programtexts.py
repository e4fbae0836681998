"""The texts of numbers, commands, programs and conditions."""

from lateststore.errors import BadText
from lateststore.programs import Fence, Flush, Program, Store
from lateststore.rules import Is

MOST_DIGITS = 31
DIGITS = "0123456789"
PIECE = 10 ** 30
PIECE_DIGITS = 30


def is_number(text):
    """Return whether a text is a number as it must be written."""
    digits = text.removeprefix("-")
    # The length comes first: Python itself refuses to read some thousands of digits.
    if not 1 <= len(digits) <= MOST_DIGITS or not all([digit in DIGITS for digit in digits]):
        return False
    return text == "0" or digits[0] != "0"


def read_numbers(words, place):
    """Return the list of the numbers that words write, in the part of a longer text at a place."""
    if not all([is_number(word) for word in words]):
        raise BadText(place)
    return [int(word) for word in words]


def number_text(number):
    """Return the text of a number of any size."""
    pieces = []
    rest = abs(number)
    # Piece by piece: Python itself refuses to write some thousands of digits.
    while rest >= PIECE:
        rest, piece = divmod(rest, PIECE)
        pieces.append(str(piece).zfill(PIECE_DIGITS))
    pieces.append(str(rest))
    if number < 0:
        pieces.append("-")
    return "".join(reversed(pieces))


def words_text(kind, numbers):
    return " ".join([kind] + [number_text(number) for number in numbers])


def command_text(command):
    if isinstance(command, Store):
        return words_text("store", [command.line, command.word, command.number])
    if isinstance(command, Flush):
        return words_text("flush", [command.line])
    return "fence"


def read_command(text, place):
    """Return the command that a text writes, the part of a longer text at a place."""
    kind, *words = text.split(" ")
    numbers = read_numbers(words, place)
    if kind == "store" and len(numbers) == 3:
        return Store(numbers[0], numbers[1], numbers[2])
    if kind == "flush" and len(numbers) == 1:
        return Flush(numbers[0])
    if kind == "fence" and not numbers:
        return Fence()
    raise BadText(place)


def program_text(program):
    """Return the commands of a program as one text."""
    if not program.commands:
        return "none"
    return ", ".join([command_text(command) for command in program.commands])


def read_program(memory, text):
    """Return the program that a text writes."""
    if text == "none":
        return Program(memory, [])
    return Program(memory, [read_command(part, place) for place, part in enumerate(text.split(", "))])


def condition_text(condition):
    """Return the text of a condition."""
    numbers = "/".join([number_text(number) for number in condition.numbers])
    return f"{number_text(condition.line)}.{number_text(condition.word)}={numbers}"


def read_condition(text):
    """Return the condition that a text writes."""
    target, _, listed = text.partition("=")
    places = read_numbers(target.split("."), 0)
    numbers = read_numbers(listed.split("/"), 0)
    if len(places) != 2:
        raise BadText(0)
    return Is(places[0], places[1], numbers)
