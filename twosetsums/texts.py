"""Sets written as texts."""

from twosetsums.errors import NoText
from twosetsums.sets import check_ring, check_set

NO_NUMBERS = "none"


def numbers_shown(numbers):
    """Numbers with a blank between each two, or the word for none."""
    if len(numbers) == 0:
        return NO_NUMBERS
    return " ".join([str(number) for number in numbers])


def number_read(word, many):
    """The whole number from 0 to less than many that a word writes, None where it writes none."""
    # Looked up among all that are right: int() would take signs, noughts ahead and other figures, too.
    written = [str(number) for number in range(many)]
    return written.index(word) if word in written else None


def set_shown(ring, some):
    """The text that writes a set."""
    check_set(ring, some)
    return numbers_shown(some)


def set_read(ring, text):
    """The set that a text writes."""
    check_ring(ring)
    if not isinstance(text, str):
        raise NoText(-1)
    if text == NO_NUMBERS:
        return ()
    told = []
    for at, word in enumerate(text.split(" ")):
        number = number_read(word, ring)
        if number is None or (told != [] and number <= told[-1]):
            raise NoText(at)
        told.append(number)
    return tuple(told)
