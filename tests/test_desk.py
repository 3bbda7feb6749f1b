import random
import unittest

from oracle import BIG, by_length, due_paper, first_of_heaviest
from wavyrow.counted import counts, first_longest, how_many_longest
from wavyrow.desk import Desk
from wavyrow.errors import NoForm, NoneYet, NoNumber, NoStep
from wavyrow.heavy import heaviest
from wavyrow.longest import how_long, longest, pieces_of
from wavyrow.turns import longest_turning

ASKED = ("row", "long", "paper", "heavy", "many", "count", "turns 0", "turns 1", "turns 2", "turns 999999",
         "all 0", "all 1", "all 2", "all 100")
WITHOUT_NUMBERS = ["none", "none", "up", "0", "1", "1", "0", "0", "0", "0", "none", "-", "-", "-"]

NINES = "9" * 30

NUMBERLESS = ("row", "long", "paper", "heavy", "many", "count")
ONE_NUMBER = ("step", "put", "take", "turns", "all")
NO_WHOLE_NUMBERS = ("00", "01", "-0", "-01", "--1", "-", "+1", "1_0", "1.0", "x", "N", "9" * 31, "-" + "9" * 31,
                    "1" + "0" * 30, "1,2", "\u0663", "\u00b2", "\uff11", "1\n", "\n1", "1\t", "1" * 9000)
NOT_FEW_FIGURES = ("-1", "-5", "1000000", "1234567", "0000001", "000000", "012345", NINES)


def no_forms():
    """Rows of no form."""
    told = ["", " ", "  ", "\n", "-", "0", "7", "none", "up", "steps 1", "ste 1", "length", "weight", "moments",
            "rows", "puts 1", "say row", "step\n1", "put\n1", "put\t1", "step 1 2", "put 1 2 3", "take 1 1",
            "turns 1 1", "all 1 1", "step 1\nput 1", "row\nrow", "row long", "step1", "put1", "take1", "all all",
            "put N", "put N W", "step N", "take F", "N", "F", "W", "1 put", "1 step", "put put 1"]
    for word in NUMBERLESS:
        told += [word + more for more in (" 1", " 0", " -1", "\n", "\t", ".", " " + word)]
        told += [word.upper(), word.title(), "\n" + word, word + "\nrow"]
    for word in ONE_NUMBER:
        told += [word, word + "1", word.upper() + " 1", word.title() + " 1", word + " 1\n", "\n" + word + " 1"]
        told += [f"{word} {number}" for number in NO_WHOLE_NUMBERS]
    for word in ("take", "turns", "all", "put 5"):
        told += [f"{word} {number}" for number in NO_WHOLE_NUMBERS + NOT_FEW_FIGURES]
    told += [f"put {number} 5" for number in NO_WHOLE_NUMBERS]
    for row in NUMBERLESS + tuple(word + " 1" for word in ONE_NUMBER) + ("put 1 1",):
        told += [" " + row, row + " ", "  " + row, row.replace(" ", "  ") + (" " if " " not in row else "")]
    return told


def answers(desk):
    """All that a desk answers that changes nothing."""
    return [desk.say(row) for row in ASKED]


def text_of(numbers):
    return " ".join(str(number) for number in numbers)


def due_answers(row, step, weights):
    """The same, of what the stages beneath tell of the row, the step and the weights."""
    weight, places = heaviest(row, step, weights)
    word, cuts = pieces_of(row, step)
    due = [text_of(row) or "none", text_of(longest(row, step)) or "none", text_of([word] + cuts),
           text_of([weight] + places), str(how_many_longest(row, step)), text_of(counts(row, step))]
    due += [str(len(longest_turning(row, step, turns))) for turns in (0, 1, 2, 999999)]
    for many in (0, 1, 2, 100):
        lists = first_longest(row, step, many)
        due.append(" / ".join(text_of(places) or "-" for places in lists) or "none")
    return due


def desk_of(*rows):
    desk = Desk()
    for row in rows:
        desk.say(row)
    return desk


def some_desks():
    """Ways to get a desk with a step, each with and without numbers."""
    yield lambda: desk_of("step 2")
    yield lambda: desk_of("step 2", "put 1", "put 2 0", "put 9", "put 8 5", "put 3", "put 4")
    yield lambda: desk_of("step 1", "put 5 7", "take 1")


class Answers(unittest.TestCase):
    """Point 23."""

    def holds(self, desk, row, due):
        told = desk.say(row)
        self.assertIs(type(told), str)
        self.assertEqual(told, due, row)

    def test_plain(self):
        desk = Desk()
        for row, due in (
            ("step 2", "step 2"), ("put 1", "1"), ("put 2 0", "1"), ("put 9 1", "2"), ("put 8 5", "2"),
            ("put 3", "3"), ("put 4", "3"), ("row", "1 2 9 8 3 4"), ("long", "0 2 4"), ("paper", "up 2 4"),
            ("heavy", "7 0 3 4"), ("many", "8"), ("count", "1 6 11 8"), ("turns 0", "2"), ("turns 1", "3"),
            ("turns 7", "3"), ("all 0", "none"), ("all 1", "0 2 4"), ("all 2", "0 2 4 / 0 2 5"),
            ("all 8", "0 2 4 / 0 2 5 / 0 3 4 / 0 3 5 / 1 2 4 / 1 2 5 / 1 3 4 / 1 3 5"),
            ("all 100", "0 2 4 / 0 2 5 / 0 3 4 / 0 3 5 / 1 2 4 / 1 2 5 / 1 3 4 / 1 3 5"),
            ("take 0", "3"), ("take 3", "2"), ("row", "1 2 9"), ("paper", "up 2"), ("heavy", "2 0 2"),
            ("many", "2"), ("count", "1 3 2"), ("take 3", "0"), ("row", "none"), ("heavy", "0"),
        ):
            self.holds(desk, row, due)

    def test_without_numbers(self):
        for desk in (desk_of("step 1"), desk_of(f"step {NINES}"), desk_of("step 3", "put 1", "put 9", "take 2")):
            self.assertEqual(answers(desk), WITHOUT_NUMBERS)
            self.holds(desk, "take 0", "0")
            self.assertEqual(answers(desk), WITHOUT_NUMBERS)

    def test_one_number(self):
        desk = desk_of("step 3", "put -4 6")
        self.assertEqual(answers(desk), ["-4", "0", "up", "6 0", "1", "1 1", "1", "1", "1", "1", "none", "0", "0", "0"])

    def test_nothing_weighs(self):
        desk = desk_of("step 1", "put 5 0", "put 1 0", "put 7 0")
        self.holds(desk, "heavy", "0")
        self.holds(desk, "long", "0 1 2")

    def test_falling_first(self):
        desk = desk_of("step 1", "put 5", "put 1", "put 7")
        self.holds(desk, "paper", "down 1 2")
        self.holds(desk, "take 3", "0")
        self.holds(desk, "paper", "up")

    def test_weight_one_where_none_is_told(self):
        self.assertEqual(answers(desk_of("step 1", "put 5", "put 9")), answers(desk_of("step 1", "put 5 1", "put 9 1")))
        self.holds(desk_of("step 1", "put 5", "put 9", "put 9"), "heavy", "2 0 1")

    def test_great_numbers(self):
        desk = Desk()
        self.holds(desk, f"step {NINES}", f"step {NINES}")
        self.holds(desk, f"put -{NINES} 999999", "1")
        self.holds(desk, "put 0 999999", "2")
        self.holds(desk, f"put -{NINES} 0", "3")
        self.holds(desk, f"put {NINES} 100000", "4")
        self.holds(desk, "row", f"-{NINES} 0 -{NINES} {NINES}")
        self.holds(desk, "heavy", "2099998 0 1 2 3")
        self.holds(desk, "take 4", "0")

    def test_behind_many_puts_and_takes(self):
        source = random.Random(91)
        for step in (1, 3, 8, 15):
            desk, row, weights = desk_of(f"step {step}"), [], []
            for k in range(120):
                if source.randrange(3):
                    row.append(source.randrange(-9, 10))
                    weights.append(source.choice((0, 1, 2, 5)))
                    said = f"put {row[-1]} {weights[-1]}"
                    if weights[-1] == 1 and source.randrange(2):
                        said = f"put {row[-1]}"
                else:
                    left = max(0, len(row) - source.choice((0, 1, 1, 2, 5, 9, 40)))
                    said = f"take {len(row) - left}"
                    row, weights = row[:left], weights[:left]
                self.holds(desk, said, str(how_long(row, step)))
                self.assertEqual(answers(desk), due_answers(row, step, weights))

    def test_short_rows_by_trying_everything(self):
        source = random.Random(92)
        for k in range(40):
            step = source.randrange(1, 5)
            desk, row, weights = desk_of(f"step {step}"), [], []
            for number in range(source.randrange(1, 8)):
                row.append(source.randrange(6))
                weights.append(source.randrange(4))
                lists = by_length(row, step)
                weight, places = first_of_heaviest(row, step, weights)
                word, cuts = due_paper(row, step)
                self.holds(desk, f"put {row[-1]} {weights[-1]}", str(len(lists) - 1))
                self.holds(desk, "long", text_of(lists[-1][0]))
                self.holds(desk, "paper", text_of([word] + cuts))
                self.holds(desk, "heavy", text_of([weight] + places))
                self.holds(desk, "many", str(len(lists[-1])))
                self.holds(desk, "count", text_of([len(each) for each in lists]))
                self.holds(desk, "all 3", " / ".join(text_of(each) for each in lists[-1][:3]))

    def test_three_hundred_numbers(self):
        desk = desk_of("step 1")
        for k in range(300):
            self.holds(desk, f"put {k % 2}", str(k + 1))
        everything = text_of(range(300))
        self.holds(desk, "row", text_of([k % 2 for k in range(300)]))
        self.holds(desk, "long", everything)
        self.holds(desk, "all 100", everything)
        self.holds(desk, "heavy", "300 " + everything)
        self.holds(desk, "turns 5", "7")
        self.holds(desk, "take 299", "1")

    def test_another_step_begins_anew(self):
        desk = desk_of("step 2", "put 1", "put 9 5")
        self.holds(desk, "step 4", "step 4")
        self.assertEqual(answers(desk), WITHOUT_NUMBERS)
        for row in ("put 1", "put 4"):
            self.holds(desk, row, "1")
        self.holds(desk, "put 5", "2")
        self.holds(desk, "step 4", "step 4")
        self.assertEqual(answers(desk), WITHOUT_NUMBERS)

    def test_asked_again(self):
        for made in some_desks():
            desk = made()
            told = answers(desk)
            self.assertEqual([answers(desk) for k in range(3)], [told] * 3)

    def test_beside_one_another(self):
        one, another = desk_of("step 1"), Desk()
        with self.assertRaises(NoneYet):
            another.say("row")
        self.holds(one, "put 1", "1")
        self.holds(another, "step 4", "step 4")
        self.assertEqual(answers(another), WITHOUT_NUMBERS)
        self.holds(another, "put 7 2", "1")
        self.holds(one, "put 5", "2")
        self.holds(another, "put 4 0", "1")
        self.assertEqual(answers(one), due_answers([1, 5], 1, [1, 1]))
        self.assertEqual(answers(another), due_answers([7, 4], 4, [2, 0]))
        self.holds(one, "take 2", "0")
        self.holds(one, "step 9", "step 9")
        self.assertEqual(answers(another), due_answers([7, 4], 4, [2, 0]))


class Refused(unittest.TestCase):
    """Point 24."""

    def refuses(self, made, row, error):
        """That the made desk refuses the row, and answers then as one that was never asked."""
        asked, other = made(), made()
        with self.assertRaises(error, msg=repr(row[:60])):
            asked.say(row)
        self.assertEqual(answers(asked), answers(other))
        for more in ("put 3 2", "put -8", "put 3", "take 1", "put 12"):
            self.assertEqual(asked.say(more), other.say(more))
        self.assertEqual(answers(asked), answers(other))

    def refuses_without_a_step(self, row, error):
        desk = Desk()
        with self.assertRaises(error, msg=repr(row[:60])):
            desk.say(row)
        for asked in ASKED:
            with self.assertRaises(NoneYet):
                desk.say(asked)
        self.assertEqual(desk.say("step 2"), "step 2")
        self.assertEqual(answers(desk), WITHOUT_NUMBERS)

    def test_no_form(self):
        for row in no_forms():
            self.refuses_without_a_step(row, NoForm)
            for made in some_desks():
                self.refuses(made, row, NoForm)

    def test_none_yet(self):
        for row in ASKED + ("put 1", "put 1 1", "put -1 0", f"put {NINES} 999999", "take 0", "take 1", "take 999999",
                            "all 101", "all 999999"):
            self.refuses_without_a_step(row, NoneYet)

    def test_step_below_one(self):
        for step in (0, -1, -2, -BIG):
            self.refuses_without_a_step(f"step {step}", NoStep)
            for made in some_desks():
                self.refuses(made, f"step {step}", NoStep)

    def test_takes_of_more_than_there_are(self):
        for made, many in zip(some_desks(), (0, 6, 0)):
            for wrong in (many + 1, many + 2, 100, 999999):
                self.refuses(made, f"take {wrong}", NoNumber)

    def test_more_than_a_hundred_of_the_longest(self):
        for made in some_desks():
            for many in (101, 102, 999999):
                self.refuses(made, f"all {many}", NoNumber)

    def test_just_what_is_allowed(self):
        desk = desk_of("step 1")
        for row, due in ((f"put -{NINES} 0", "1"), (f"put {NINES} 999999", "2"), ("put 0", "3"), ("put 0 0", "3"),
                         ("turns 0", "2"), ("turns 999999", "3"), ("all 0", "none"), ("take 0", "3"), ("take 4", "0")):
            self.assertEqual(desk.say(row), due, row)
        self.assertEqual(desk.say(f"step {NINES}"), f"step {NINES}")


if __name__ == "__main__":
    unittest.main()
