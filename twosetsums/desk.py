"""The desk: it keeps a ring and two sets of it, and is told rows of words that change them or ask of them."""

from twosetsums.errors import NoRow
from twosetsums.filling import filled
from twosetsums.folds import order
from twosetsums.keeping import keepers
from twosetsums.kinds import kind_of
from twosetsums.moves import moved, stretched
from twosetsums.runs import runs_by
from twosetsums.sets import check_ring
from twosetsums.steps import steps_of
from twosetsums.sums import differences, lacking, sums
from twosetsums.texts import NO_NUMBERS, number_read, numbers_shown, set_read
from twosetsums.trading import trade, trades_of
from twosetsums.trios import third_for
from twosetsums.ways import ways

# The numbers of a row have at most two figures, so they are those below this one.
ROW_NUMBERS = 100

# A deed tells the ring and both sets as they are behind it; a question tells a text.


def take_ring(ring, one, other, number):
    check_ring(number)
    return (number, (), ())


def take_one(ring, one, other, text):
    return (ring, set_read(ring, text), other)


def take_two(ring, one, other, text):
    return (ring, one, set_read(ring, text))


def swap_both(ring, one, other):
    return (ring, other, one)


def move_one(ring, one, other, number):
    return (ring, moved(ring, one, number), other)


def stretch_both(ring, one, other, number):
    return (ring, stretched(ring, one, number), stretched(ring, other, number))


def trade_both(ring, one, other, number):
    got, kept = trade(ring, one, other, number)
    return (ring, got, kept)


def fill_both(ring, one, other):
    first, second = filled(ring, one, other)
    return (ring, first, second)


def take_lacking(ring, one, other):
    return (ring, one, lacking(ring, one, other))


def show_first(ring, one, other):
    return numbers_shown(one)


def show_second(ring, one, other):
    return numbers_shown(other)


def show_ring(ring, one, other):
    return str(ring)


def show_sums(ring, one, other):
    return numbers_shown(sums(ring, one, other))


def show_differences(ring, one, other):
    return numbers_shown(differences(ring, one, other))


def show_lacking(ring, one, other):
    return numbers_shown(lacking(ring, one, other))


def show_many(ring, one, other):
    return str(len(sums(ring, one, other)))


def show_ways(ring, one, other):
    return numbers_shown(ways(ring, one, other))


def show_keepers(ring, one, other):
    return numbers_shown(keepers(ring, one))


def show_steps(ring, one, other):
    return numbers_shown(steps_of(ring, one))


def show_kind(ring, one, other):
    return " ".join([str(part) for part in kind_of(ring, one, other)])


def show_trades(ring, one, other):
    return numbers_shown(trades_of(ring, one, other))


def show_third(ring, one, other):
    return numbers_shown(third_for(ring, one, other))


def show_order(ring, one, other):
    k = order(ring, one)
    return NO_NUMBERS if k is None else str(k)


def show_runs(ring, one, d):
    return numbers_shown([f"{first}:{many}" for first, many in runs_by(ring, one, d)])


TEXT_DEEDS = {"one": take_one, "two": take_two}

NUMBER_DEEDS = {"ring": take_ring, "move": move_one, "stretch": stretch_both, "trade": trade_both}

DEEDS = {"swap": swap_both, "fill": fill_both, "lack": take_lacking}

QUESTIONS = {
    "first": show_first,
    "second": show_second,
    "ring": show_ring,
    "sums": show_sums,
    "differences": show_differences,
    "lacking": show_lacking,
    "many": show_many,
    "ways": show_ways,
    "keepers": show_keepers,
    "steps": show_steps,
    "kind": show_kind,
    "trades": show_trades,
    "third": show_third,
    "order": show_order,
}


class Desk:
    """A ring and two sets of it, and what they were ahead of each deed that stands."""

    def __init__(self):
        self.held = (2, (), ())
        self.past = []

    def say(self, row):
        """The answer to a row; what is refused changes nothing."""
        if not isinstance(row, str):
            raise NoRow("a row is a text")
        word, blank, behind = row.partition(" ")
        if blank == "":
            return self.say_word(word)
        if word in TEXT_DEEDS:
            return self.say_text(word, behind)
        return self.say_number(word, behind)

    def say_word(self, word):
        """The answer to a row of one word."""
        ring, one, other = self.held
        if word == "back":
            return self.undo()
        if word in DEEDS:
            deed = DEEDS[word]
            return self.stand(deed(ring, one, other))
        if word in QUESTIONS:
            question = QUESTIONS[word]
            return question(ring, one, other)
        raise NoRow("no row is this one word")

    def say_text(self, word, text):
        """The answer to a row of a word and a text that writes a set."""
        ring, one, other = self.held
        deed = TEXT_DEEDS[word]
        return self.stand(deed(ring, one, other, text))

    def say_number(self, word, behind):
        """The answer to a row of a word and a number."""
        ring, one, other = self.held
        number = number_read(behind, ROW_NUMBERS)
        if number is None:
            raise NoRow("no number of at most two figures stands behind the word")
        if word == "runs":
            return show_runs(ring, one, number)
        if word in NUMBER_DEEDS:
            deed = NUMBER_DEEDS[word]
            return self.stand(deed(ring, one, other, number))
        raise NoRow("no row is this word and a number")

    def stand(self, held):
        """Keep what a deed told, and what was ahead of it to come back to."""
        self.past.append(self.held)
        self.held = held
        return "ok"

    def undo(self):
        """Come back to what was ahead of the last deed that stands."""
        if len(self.past) == 0:
            raise NoRow("no deed stands")
        self.held = self.past.pop()
        return "ok"
