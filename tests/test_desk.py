"""10.2 to 10.4: the class Desk with say."""

import inspect
import random
import unittest

from tests.samples import FAR, Checks, deep, many_sets
from twosetsums.desk import Desk
from twosetsums.errors import Apart, NoNumber, NoPrime, NoRing, NoRow, NoText, RingError
from twosetsums.filling import filled
from twosetsums.folds import order
from twosetsums.keeping import keepers
from twosetsums.kinds import kind_of
from twosetsums.moves import moved, stretched
from twosetsums.runs import runs_by
from twosetsums.sets import is_set, others
from twosetsums.steps import steps_of
from twosetsums.sums import differences, lacking, sums
from twosetsums.texts import set_read, set_shown
from twosetsums.trading import trade, trades_of
from twosetsums.trios import third_for
from twosetsums.ways import ways

PLAIN_QUESTIONS = ["first", "second", "ring", "sums", "differences", "lacking", "many", "ways", "keepers", "steps",
                   "kind", "trades", "third", "order"]
PLAIN_DEEDS = ["swap", "fill", "lack"]
NUMBER_WORDS = ["ring", "move", "stretch", "trade", "runs"]

# What is no text, or a text that is no row.
NO_ROWS = [
    None, True, False, 0, 1, -1, FAR, [], ["swap"], ["ring", 5], (), ("swap",), ("ring", "5"), {}, {"swap": "swap"},
    b"swap", deep(10),
    "", " ", "  ", "none", "ok", "x", "~", "0", "7", "1 2", "ring5", "5 ring", "swap,", "swap;fill", "one", "two",
    "onee", "on", "one,1", "one1", "tw", "twoo", " one 1", " two 1", "One 1", "ONE 1", "two\t1", "one\n1", "three 1",
    "first second", "first first", "swap swap", "back back", "back 1", "first 1", "second 0", "sums 1", "many 3",
    "ways 1", "keepers 1", "kind 2", "trades 0", "third 3", "order 1", "swap 1", "fill 1", "lack 1", "lacking 1",
    "differences 1", "steps 1", "move", "stretch", "trade", "runs", "move x", "move one", "move 1 2", "trade 0 0",
    "stretch 1 1", "runs 1 1", "ring 5 5", "ring 5 swap", "move none", "runs none", "ring none", "third_for",
    "kind_of", "trades_of", "steps_of", "runs_by", "undo", "held", "past", "say", "__init__",
]

WRONG_NUMBERS = ["", " ", "x", "-1", "-0", "+1", "00", "01", "001", "100", "010", "123", str(FAR), "1_0", "1.0", "1e1",
                 "0x1", "1 ", " 1", "1 1", "\u0661", "\u00b2", "\uff11", "1\n", "1\t", "one", "1,", "(1)", "1a"]


def shown(numbers):
    return " ".join(map(str, numbers)) or "none"


def plain_answer(question, ring, one, other):
    """What a question of one word is to be answered, by the modules that stand."""
    if question in ("first", "second"):
        return set_shown(ring, one if question == "first" else other)
    if question == "ring":
        return f"{ring}"
    if question == "many":
        return f"{len(sums(ring, one, other))}"
    if question == "order":
        found = order(ring, one)
        return "none" if found is None else f"{found}"
    of_one = {"keepers": keepers, "steps": steps_of}
    if question in of_one:
        return shown(of_one[question](ring, one))
    of_both = {"sums": sums, "differences": differences, "lacking": lacking, "ways": ways, "kind": kind_of,
               "trades": trades_of, "third": third_for}
    return shown(of_both[question](ring, one, other))


def runs_answer(ring, one, d):
    return " ".join(f"{first}:{many}" for first, many in runs_by(ring, one, d)) or "none"


def behind_deed(row, ring, one, other):
    """The ring and both sets behind a deed, by the modules that stand."""
    word, blank, rest = row.partition(" ")
    if word == "ring":
        is_set(int(rest), ())
        return int(rest), (), ()
    if word == "one":
        return ring, set_read(ring, rest), other
    if word == "two":
        return ring, one, set_read(ring, rest)
    if word == "swap":
        return ring, other, one
    if word == "move":
        return ring, moved(ring, one, int(rest)), other
    if word == "stretch":
        return ring, stretched(ring, one, int(rest)), stretched(ring, other, int(rest))
    if word == "trade":
        return ring, *trade(ring, one, other, int(rest))
    if word == "fill":
        return ring, *filled(ring, one, other)
    return ring, one, lacking(ring, one, other)


def behind_deeds(deeds):
    """The ring and both sets behind all deeds that stand, each done anew."""
    held = (2, (), ())
    for row in deeds:
        held = behind_deed(row, *held)
    return held


def told_of(call, *args):
    """What a call tells or is refused with, to be compared: a text, or the class and its fields."""
    try:
        return call(*args)
    except RingError as error:
        return (type(error), vars(error))


class DeskTest(Checks, unittest.TestCase):

    def setUp(self):
        self.desk = Desk()

    def says(self, wanted, row):
        found = self.desk.say(row)
        self.assertIs(type(found), str, row)
        self.assertEqual(found, wanted, row)

    def sets_are(self, ring, one, other):
        self.says(str(ring), "ring")
        self.says(one, "first")
        self.says(other, "second")

    def lay(self, ring, one, other):
        self.desk = Desk()
        for row in (f"ring {ring}", "one " + set_shown(ring, one), "two " + set_shown(ring, other)):
            self.says("ok", row)

    def refuses(self, kind, row, **fields):
        before = self.all_told()
        error = self.refused(kind, self.desk.say, row)
        self.assertEqual(vars(error), fields)
        self.assertEqual(self.all_told(), before)

    def all_told(self):
        return [told_of(self.desk.say, question) for question in (*PLAIN_QUESTIONS, "runs 1")]

    def test_the_interface(self):
        self.assertEqual(list(inspect.signature(Desk).parameters), [])
        self.assertEqual(list(inspect.signature(Desk.say).parameters), ["self", "row"])
        self.assertIn("say", vars(Desk))
        self.assertEqual(Desk().say(row="ring"), "2")
        self.assertEqual(Desk().say("ring"), "2")

    def test_at_first(self):
        self.sets_are(2, "none", "none")
        for question, wanted in [("sums", "none"), ("differences", "none"), ("lacking", "0 1"), ("many", "0"),
                                 ("ways", "0 0"), ("keepers", "0 1"), ("steps", "none"), ("third", "0 1"),
                                 ("order", "none"), ("runs 1", "none")]:
            self.says(wanted, question)
        for row in ("kind", "trades"):
            self.refuses(Apart, row)
        self.refuses(NoRow, "back")

    def test_ring(self):
        for ring in range(2, 25):
            self.says("ok", f"ring {ring}")
            self.sets_are(ring, "none", "none")
            self.says("ok", f"one 0 {ring - 1}")
            self.says("ok", f"two {ring - 1}")
            self.sets_are(ring, f"0 {ring - 1}", f"{ring - 1}")
            # The same ring once more makes both sets (), too.
            self.says("ok", f"ring {ring}")
            self.sets_are(ring, "none", "none")

    def test_rings_that_are_none(self):
        self.lay(7, (0, 1, 3), (2,))
        for wrong in (0, 1, 25, 26, 50, 99):
            self.refuses(NoRing, f"ring {wrong}")
        self.sets_are(7, "0 1 3", "2")

    def test_one_and_two(self):
        self.says("ok", "ring 12")
        self.says("ok", "one 0 3 11")
        self.sets_are(12, "0 3 11", "none")
        self.says("ok", "two 10")
        self.sets_are(12, "0 3 11", "10")
        self.says("ok", "one none")
        self.sets_are(12, "none", "10")
        self.says("ok", "two none")
        self.sets_are(12, "none", "none")

    def test_one_and_two_with_texts_that_write_no_set(self):
        self.lay(12, (1, 2), (3,))
        for text, at in [("", 0), (" ", 0), ("  ", 0), (" 1", 0), ("1 ", 1), ("1  2", 1), ("12", 0), ("1 0", 1),
                         ("0 1 1", 2), ("x", 0), ("1 x", 1), ("None", 0), ("none ", 0), ("none 1", 0), ("01", 0),
                         ("-1", 0), ("+1", 0), ("1,2", 0), ("one 1", 0), ("0 1 12", 2), ("100", 0), ("1\n", 0)]:
            self.refuses(NoText, "one " + text, at=at)
            self.refuses(NoText, "two " + text, at=at)
        # They are read on the ring that is kept now.
        self.says("ok", "ring 13")
        self.says("ok", "one 12")
        self.says("ok", "ring 3")
        self.refuses(NoText, "one 0 3", at=1)
        self.refuses(NoText, "two 3", at=0)

    def test_swap(self):
        self.lay(7, (0, 1), (4,))
        self.says("ok", "swap")
        self.sets_are(7, "4", "0 1")
        self.says("ok", "swap")
        self.sets_are(7, "0 1", "4")

    def test_move_changes_the_first_set_alone(self):
        for number in range(100):
            self.lay(7, (0, 1, 3), (2, 5))
            self.says("ok", f"move {number}")
            self.sets_are(7, shown(sorted((x + number) % 7 for x in (0, 1, 3))), "2 5")

    def test_stretch_changes_both(self):
        for number in range(100):
            self.lay(12, (1, 4, 7), (2, 5))
            self.says("ok", f"stretch {number}")
            self.sets_are(12, shown(sorted({x * number % 12 for x in (1, 4, 7)})),
                          shown(sorted({x * number % 12 for x in (2, 5)})))

    def test_trade(self):
        self.lay(7, (0, 1, 2), (0, 1, 2))
        self.says("ok", "trade 1")
        self.sets_are(7, "0 1 2 3", "0 1")
        self.says("ok", "trade 3")
        self.sets_are(7, "0 1 2 3 4", "0")
        self.says("ok", "trade 6")
        self.sets_are(7, "0 1 2 3 4 6", "none")
        for number in (7, 8, 50, 99):
            self.refuses(NoNumber, f"trade {number}")
        self.says("ok", "back")
        self.sets_are(7, "0 1 2 3 4", "0")

    def test_trade_by_each_number_of_the_ring(self):
        for ring in (2, 9, 10, 11, 24):
            for number in range(100):
                self.lay(ring, (0, 1), (0, ring - 1))
                if number >= ring:
                    self.refuses(NoNumber, f"trade {number}")
                else:
                    got, kept = trade(ring, (0, 1), (0, ring - 1), number)
                    self.says("ok", f"trade {number}")
                    self.sets_are(ring, set_shown(ring, got), set_shown(ring, kept))

    def test_fill(self):
        self.lay(5, (0, 1), (0, 2))
        self.says("ok", "fill")
        self.sets_are(5, "0 1 3", "0 2")
        self.lay(5, (), ())
        self.says("ok", "fill")
        self.sets_are(5, "0 1 2 3 4", "none")

    def test_lack(self):
        self.lay(7, (0, 1, 3), (0, 1))
        self.says("ok", "lack")
        self.sets_are(7, "0 1 3", "5 6")
        self.lay(7, (0, 1), ())
        self.says("ok", "lack")
        self.sets_are(7, "0 1", "0 1 2 3 4 5 6")

    def test_questions_one_by_one(self):
        self.lay(7, (0, 1, 3), (0, 1))
        for question, wanted in [
                ("first", "0 1 3"), ("second", "0 1"), ("ring", "7"), ("sums", "0 1 2 3 4"),
                ("differences", "0 1 2 3 6"), ("lacking", "5 6"), ("many", "5"), ("ways", "1 2 1 1 1 0 0"),
                ("keepers", "0"), ("steps", "none"), ("kind", "more 1"), ("trades", "1"), ("third", "1 2"),
                ("order", "3"), ("runs 1", "0:2 3:1"), ("runs 6", "1:2 3:1"), ("runs 3", "0:2 1:1")]:
            self.says(wanted, question)
        self.sets_are(7, "0 1 3", "0 1")

    def test_each_kind(self):
        for one, other, wanted in [((0, 2, 4), (1, 3), "step 2"), ((0, 1, 3), (0, 1), "more 1"),
                                   ((0, 1, 2), (0, 1, 2, 3), "lack 6"), ((0, 1, 2, 3), (0, 1, 2, 4), "all"),
                                   ((0, 1, 3), (4,), "one")]:
            self.lay(7, one, other)
            self.says(wanted, "kind")

    def test_questions_that_are_refused(self):
        for ring in (4, 6, 24):
            self.lay(ring, (0, 1), (0, 1))
            self.refuses(NoPrime, "kind")
            self.lay(ring, (), ())
            self.refuses(NoPrime, "kind")
        for one, other in (((), ()), ((), (0,)), ((0, 1), ())):
            self.lay(5, one, other)
            self.refuses(Apart, "kind")
            self.refuses(Apart, "trades")
        self.lay(24, (0, 1), (0, 1))
        for number in (0, 24, 25, 99):
            self.refuses(NoNumber, f"runs {number}")
        self.says("0:2", "runs 1")
        self.says("1:2", "runs 23")

    def test_no_trades_and_no_order(self):
        self.lay(7, (0, 1), (3,))
        self.says("none", "trades")
        self.lay(6, (1, 3), (0,))
        self.says("none", "order")
        self.lay(6, (0, 2, 4), (0,))
        self.says("2", "steps")
        self.says("0 2 4", "keepers")
        self.says("0:3", "runs 2")
        self.lay(6, (), (0,))
        self.says("none", "runs 5")

    def test_all_questions_of_many_pairs(self):
        for ring in (2, 3, 6, 11, 13, 24):
            told = many_sets(ring)
            for at, one in enumerate(told):
                other = told[-1 - at // 2]
                self.lay(ring, one, other)
                for question in PLAIN_QUESTIONS:
                    wanted = told_of(plain_answer, question, ring, one, other)
                    self.assertEqual(told_of(self.desk.say, question), wanted, (question, ring, one, other))
                for d in (1, 2, ring - 1, ring // 2):
                    wanted = told_of(runs_answer, ring, one, d)
                    self.assertEqual(told_of(self.desk.say, f"runs {d}"), wanted)
                self.sets_are(ring, set_shown(ring, one), set_shown(ring, other))

    def test_back(self):
        rows = ["ring 12", "one 0 1 5", "two 2 3", "swap", "move 30", "stretch 5", "trade 0", "fill", "lack", "swap",
                "one none", "two none", "swap", "ring 12", "ring 5", "move 1", "stretch 0", "fill", "lack", "two 1"]
        states = [self.all_told()]
        for row in rows:
            self.says("ok", row)
            states.append(self.all_told())
        for at in reversed(range(len(rows))):
            self.assertEqual(self.all_told(), states[at + 1])
            self.says("ok", "back")
            self.assertEqual(self.all_told(), states[at], rows[at])
        for turn in range(3):
            self.refuses(NoRow, "back")
        # Behind that the desk is as good as a new one.
        self.says("ok", "ring 3")
        self.says("ok", "back")
        self.refuses(NoRow, "back")

    def test_back_is_no_deed_to_undo(self):
        self.lay(7, (0,), (1,))
        self.says("ok", "swap")
        self.says("ok", "back")
        self.sets_are(7, "0", "1")
        self.says("ok", "back")
        self.sets_are(7, "0", "none")
        self.says("ok", "move 2")
        self.says("ok", "back")
        self.says("ok", "back")
        self.sets_are(7, "none", "none")

    def test_deeds_that_change_nothing_are_undone_one_by_one(self):
        self.lay(7, (0,), (0,))
        for row in ("swap", "move 0", "move 7", "stretch 1", "one 0", "two 0"):
            self.says("ok", row)
        for turn in range(6):
            self.says("ok", "back")
            self.sets_are(7, "0", "0")
        self.says("ok", "back")
        self.sets_are(7, "0", "none")

    def test_what_is_refused_is_no_deed_to_undo(self):
        self.says("ok", "ring 7")
        self.says("ok", "one 0 1")
        self.says("ok", "two 3")
        for kind, row, fields in [(NoRing, "ring 25", {}), (NoText, "one 7", {"at": 0}), (NoText, "two ", {"at": 0}),
                                  (NoNumber, "trade 7", {}), (NoNumber, "runs 0", {}), (NoRow, "swop", {}),
                                  (NoRow, "move 100", {}), (NoRow, None, {})]:
            self.refuses(kind, row, **fields)
        self.says("ok", "back")
        self.sets_are(7, "0 1", "none")
        self.refuses(Apart, "trades")
        self.refuses(Apart, "kind")
        self.says("ok", "back")
        self.sets_are(7, "none", "none")
        self.says("ok", "back")
        self.sets_are(2, "none", "none")
        self.refuses(NoRow, "back")

    def test_questions_are_no_deeds_to_undo(self):
        self.lay(7, (0, 1), (3,))
        for question in (*PLAIN_QUESTIONS, "runs 2"):
            self.desk.say(question)
        self.says("ok", "back")
        self.sets_are(7, "0 1", "none")

    def test_no_rows(self):
        for desk_rows in ([], ["ring 7", "one 0 1 3", "two 0 1"]):
            self.desk = Desk()
            for row in desk_rows:
                self.says("ok", row)
            for row in NO_ROWS:
                self.refuses(NoRow, row)

    def test_rows_with_a_letter_more_or_less_a_capital_or_a_blank(self):
        self.lay(7, (0, 1, 3), (0, 1))
        words = [*PLAIN_QUESTIONS, *PLAIN_DEEDS, "back"]
        for word in words:
            for row in (" " + word, word + " ", word + "  ", word + "s", word + "x", word[:-1], word[1:], word.upper(),
                        word.capitalize(), word + " 1", word + " " + word, word + "\n", word + "\t"):
                known = row in words or row in ("ring 1", "one", "two")
                if not known:
                    self.refuses(NoRow, row)

    def test_numbers_that_are_not_so_written(self):
        self.lay(7, (0, 1, 3), (0, 1))
        for word in NUMBER_WORDS:
            for wrong in WRONG_NUMBERS:
                self.refuses(NoRow, f"{word} {wrong}")
            self.refuses(NoRow, f"{word}  1")
            self.refuses(NoRow, f"{word}1")
            self.refuses(NoRow, f"{word.upper()} 3")
            self.refuses(NoRow, f" {word} 3")

    def test_a_word_more_behind_a_number_is_refused_ahead_of_all_else(self):
        for row in ("ring 99 1", "trade 99 x", "runs 0 0", "ring 1 ", "trade 99 "):
            self.refuses(NoRow, row)

    def test_two_desks_by_turns(self):
        first, second = Desk(), Desk()
        for row_of_first, row_of_second in [("ring 7", "ring 5"), ("one 0 1", "one 4"), ("two 3", "two 0 2"),
                                            ("swap", "move 3"), ("back", "back")]:
            self.assertEqual(first.say(row_of_first), "ok")
            self.assertEqual(second.say(row_of_second), "ok")
        self.assertEqual([first.say(row) for row in ("ring", "first", "second")], ["7", "0 1", "3"])
        self.assertEqual([second.say(row) for row in ("ring", "first", "second")], ["5", "4", "0 2"])
        self.assertEqual([Desk().say(row) for row in ("ring", "first", "second")], ["2", "none", "none"])
        for turn in range(3):
            first.say("back")
        self.refused(NoRow, first.say, "back")
        self.assertEqual(second.say("second"), "0 2")
        self.assertEqual(second.say("back"), "ok")


class DrawnRowsTest(unittest.TestCase):

    def drawn_row(self, draw, ring):
        number = draw.choice([draw.randrange(ring), draw.randrange(100)])
        some = tuple(sorted(draw.sample(range(ring), draw.randrange(ring + 1))))
        text = draw.choice([set_shown(ring, some), set_shown(ring, others(ring, some)), "none", "", "1 1", "x"])
        return draw.choice([
            f"ring {draw.randrange(27)}", "one " + text, "two " + text, "one " + set_shown(ring, some),
            "two " + set_shown(ring, some), draw.choice(PLAIN_DEEDS), f"move {number}", f"stretch {number}",
            f"trade {number}", f"trade {number}", "back", "back", draw.choice(PLAIN_QUESTIONS), f"runs {number}",
            draw.choice(["swap ", "one", "move", "ring 100", "First", "back 1", ""])])

    def answer(self, row, deeds):
        """What is to be answered; deeds is changed as the row is to change the deeds that stand."""
        held = behind_deeds(deeds)
        word = row.split(" ")[0]
        if row in ("swap ", "one", "move", "ring 100", "First", "back 1", "") or (row == "back" and not deeds):
            return (NoRow, {})
        if row == "back":
            deeds.pop()
            return "ok"
        if row in PLAIN_QUESTIONS:
            return told_of(plain_answer, row, *held)
        if word == "runs":
            return told_of(runs_answer, held[0], held[1], int(row.split(" ")[1]))
        behind = told_of(behind_deed, row, *held)
        if isinstance(behind[0], type):
            return behind
        deeds.append(row)
        return "ok"

    def test_drawn_rows(self):
        # The drawing is the same each time.
        for seed in range(40):
            draw = random.Random(seed)
            desk, deeds, rows = Desk(), [], []
            for turn in range(80):
                rows.append(self.drawn_row(draw, behind_deeds(deeds)[0]))
                wanted = self.answer(rows[-1], deeds)
                self.assertEqual(told_of(desk.say, rows[-1]), wanted, rows)
                ring, one, other = behind_deeds(deeds)
                self.assertEqual(desk.say("ring"), str(ring))
                self.assertEqual(desk.say("first"), set_shown(ring, one))
                self.assertEqual(desk.say("second"), set_shown(ring, other))

    def test_what_is_answered_hangs_on_the_deeds_that_stand_alone(self):
        for seed in range(20):
            draw = random.Random(seed)
            desk, deeds = Desk(), []
            for turn in range(60):
                row = self.drawn_row(draw, behind_deeds(deeds)[0])
                self.answer(row, deeds)
                told_of(desk.say, row)
            fresh = Desk()
            for row in deeds:
                fresh.say(row)
            for turn in range(len(deeds) + 1):
                for question in (*PLAIN_QUESTIONS, "runs 1"):
                    self.assertEqual(told_of(fresh.say, question), told_of(desk.say, question))
                self.assertEqual(told_of(fresh.say, "back"), told_of(desk.say, "back"))
