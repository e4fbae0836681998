"""A book that is told commands as strings and answers in strings."""

from lateststore.book import Book
from lateststore.errors import BadText, StoreError
from lateststore.images import count, cuts, image_at
from lateststore.likeness import needless
from lateststore.orders import breach
from lateststore.programtexts import program_text, read_command, read_condition, read_numbers


def check_many(words, many):
    if len(words) != many:
        raise BadText(0)


def numbers_text(numbers):
    return " ".join([str(number) for number in numbers])


def read_conditions(words):
    """Return the list of the conditions that words write, where a - alone stands for none."""
    if not words:
        raise BadText(0)
    if words == ["-"]:
        return []
    return [read_condition(word) for word in words]


def tell_add(book, words):
    book.add(read_command(" ".join(words), 0))
    return ["done"]


def tell_take(book, words):
    check_many(words, 0)
    book.take()
    return ["done"]


def tell_rule(book, words):
    # The name itself may be -> too, but no condition is.
    rest = words[1:]
    if rest.count("->") != 1:
        raise BadText(0)
    middle = rest.index("->")
    given = read_conditions(rest[:middle])
    wanted = read_conditions(rest[middle + 1:])
    book.rule(words[0], given, wanted)
    return ["done"]


def tell_drop(book, words):
    check_many(words, 1)
    book.drop(words[0])
    return ["done"]


def tell_back(book, words):
    check_many(words, 0)
    book.back()
    return ["done"]


def tell_program(book, words):
    check_many(words, 0)
    return [program_text(book.program())]


def tell_count(book, words):
    check_many(words, 0)
    return [str(count(book.program()))]


def tell_names(book, words):
    check_many(words, 0)
    return book.names()


def tell_state(book, words):
    check_many(words, 1)
    image = book.state(words[0])
    return ["holds"] if image is None else [f"broken {numbers_text(image)}"]


def tell_image(book, words):
    check_many(words, 1)
    numbers = read_numbers(words, 0)
    return [numbers_text(image_at(book.program(), numbers[0]))]


def tell_cuts(book, words):
    if not words:
        raise BadText(0)
    image = read_numbers(words, 0)
    times = cuts(book.program(), image)
    return ["none"] if times is None else [numbers_text(times)]


def tell_holds(book, words):
    check_many(words, 2)
    order = read_numbers(words, 0)
    image = breach(book.program(), order)
    return ["yes"] if image is None else [f"no {numbers_text(image)}"]


def tell_needless(book, words):
    check_many(words, 0)
    places = needless(book.program())
    return [numbers_text(places)] if places else ["none"]


ANSWERS = {
    "add": tell_add,
    "take": tell_take,
    "rule": tell_rule,
    "drop": tell_drop,
    "back": tell_back,
    "program": tell_program,
    "count": tell_count,
    "names": tell_names,
    "state": tell_state,
    "image": tell_image,
    "cuts": tell_cuts,
    "holds": tell_holds,
    "needless": tell_needless,
}


def answer(book, row):
    """Return what a book answers to a command, or raise the error for which it is refused."""
    kind, *words = row.split(" ")
    if kind not in ANSWERS or "" in words:
        raise BadText(0)
    action = ANSWERS[kind]
    return action(book, words)


class Desk:
    """A book behind commands in words."""

    def __init__(self, memory):
        self.book = Book(memory)

    def tell(self, row):
        """Return the answer to a command as a list of strings."""
        try:
            return answer(self.book, row)
        except StoreError as error:
            return [error.told()]
