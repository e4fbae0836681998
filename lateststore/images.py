"""The images that a cut can leave: their times, boxes, places and contents."""

from lateststore.errors import NoImage, NoPlace
from lateststore.programs import Store, progress, stores


class Box:
    """The images between two images, both included, and the time at which a cut can leave them."""

    def __init__(self, time, low, high):
        self.time = time
        self.low = tuple(low)
        self.high = tuple(high)

    def __eq__(self, other):
        return (isinstance(other, Box) and self.time == other.time
                and self.low == other.low and self.high == other.high)

    def __contains__(self, image):
        return is_between(image, self.low, self.high)


def is_between(image, low, high):
    """Return whether the image has as many numbers as low and high, each between theirs."""
    if len(image) != len(low) or len(image) != len(high):
        return False
    return all([least <= number <= most for least, number, most in zip(low, image, high)])


def check_image(program, image):
    done, _ = progress(program)[-1]
    if not is_between(image, [0] * len(done), done):
        raise NoImage()


def cuts(program, image):
    """Return the first and the last time at which a cut can leave the image, or None."""
    check_image(program, image)
    rows = progress(program)
    times = [time for time, (done, safe) in enumerate(rows) if is_between(image, safe, done)]
    if not times:
        return None
    return times[0], times[-1]


def boxes(program):
    """Return the box of no store and then the box of each store."""
    rows = progress(program)
    zeros, _ = rows[0]
    found = [Box(0, zeros, zeros)]
    for at, command in enumerate(program.commands):
        if isinstance(command, Store):
            done, safe = rows[at + 1]
            line = command.line
            found.append(Box(at + 1, safe[:line] + (done[line],) + safe[line + 1:], done))
    return found


def size_of(box):
    """Return the number of images in a box."""
    size = 1
    for low, high in zip(box.low, box.high):
        size = size * (high - low + 1)
    return size


def count(program):
    """Return the number of possible images."""
    return sum([size_of(box) for box in boxes(program)])


def image_in_box(box, place):
    """Return the image at a place of a box."""
    numbers = []
    rest = place
    size = size_of(box)
    for low, high in zip(box.low, box.high):
        size = size // (high - low + 1)
        steps, rest = divmod(rest, size)
        numbers.append(low + steps)
    return tuple(numbers)


def place_in_box(box, image):
    """Return the place of an image in its box."""
    place = 0
    for low, number, high in zip(box.low, image, box.high):
        place = place * (high - low + 1) + number - low
    return place


def image_at(program, place):
    """Return the possible image at a place."""
    if place < 0:
        raise NoPlace(place)
    rest = place
    for box in boxes(program):
        size = size_of(box)
        if rest < size:
            return image_in_box(box, rest)
        rest = rest - size
    raise NoPlace(place)


def place_of(program, image):
    """Return the place of an image, or None if it is not possible."""
    check_image(program, image)
    before = 0
    for box in boxes(program):
        if image in box:
            return before + place_in_box(box, image)
        before = before + size_of(box)
    return None


def images_of(box):
    """Return the list of all images of a box in their order."""
    images = [()]
    for low, high in zip(box.low, box.high):
        images = [image + (number,) for image in images for number in range(low, high + 1)]
    return images


def possible_images(program):
    """Return the list of all possible images in their order; only for programs that have few."""
    return [image for box in boxes(program) for image in images_of(box)]


def after_store(row, store):
    """Return the words of a line after a store to it."""
    return row[:store.word] + (store.number,) + row[store.word + 1:]


def rows_after(words, listed):
    """Return for each line the list of its words after each number of its stores, of a list of stores, from 0 on."""
    found = [[row] for row in words]
    for store in listed:
        rows = found[store.line]
        rows.append(after_store(rows[-1], store))
    return found


def rows_of_lines(program):
    """Return for each line of a program the list of its words after each number of its stores, from 0 on."""
    return rows_after([(0,) * size for size in program.memory.sizes], stores(program))


def words_of(rows, image):
    """Return the contents of an image, from the words of each line after each number of its stores."""
    return tuple([states[number] for states, number in zip(rows, image)])


def contents(program, image):
    """Return the words of an image, a tuple for each line."""
    check_image(program, image)
    return words_of(rows_of_lines(program), image)
