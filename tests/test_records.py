"""[74]: records."""

import itertools
import random
import unittest

from nobodymeets.broken import fetch_order, fetch_paper
from nobodymeets.charge import served_paper
from nobodymeets.court import court_paper
from nobodymeets.errors import (HallError, InvalidCell, InvalidComings, InvalidGoods, InvalidHall, InvalidLines, InvalidLot,
                                InvalidLots, InvalidOrders, InvalidRoutes, InvalidSize, InvalidStanding, Refused)
from nobodymeets.halls import Hall, read_drawing
from nobodymeets.passings import passing_paper
from nobodymeets.pieces import parts_paper, together_paper
from nobodymeets.records import make_record, record_holds, wrong_records
from nobodymeets.standings import standing_paper
from nobodymeets.stock import promise_paper, till_paper
from tests.hall_worlds import random_hall
from tests.helpers import PromiseCase, changed_a_little, is_tupled, listed, no_sequences, odd_values, same
from tests.test_passings import PASSINGS, ROUTES

HALL = read_drawing("P.C\n#.#\n.S.")
TWO_WAY = read_drawing("P..H")
QUESTIONS = {
    "court": (court_paper, (HALL,)),
    "together": (together_paper, (HALL, 0, 5)),
    "parts": (parts_paper, (HALL, 0, 3)),
    "fetch": (fetch_paper, (HALL, (3, 1), 0, 5)),
    "served": (served_paper, (HALL, 6)),
    "standing": (standing_paper, (TWO_WAY, ((0, 0), (1, 1)), ((0, 1), (1, 2)))),
    "promise": (promise_paper, (((1, 4),), ((3, 1, 2),), ((2, 1, 3), (4, 1, 3)))),
    "till": (till_paper, (((1, 5, 3), (1, 2, 1)), ((1, 2, 2),))),
    "passings": (passing_paper, (ROUTES, PASSINGS)),
    "freed": (fetch_order, (HALL, (3, 1), 0)),
}


class RecordTest(PromiseCase):
    def test_a_record_of_each_word(self):
        for word, (paper, question) in QUESTIONS.items():
            record = make_record(word, question)
            self.assertTrue(same(record, (word, question, paper(*question))), word)
            self.holds_just_if(True, record_holds, record)
            self.assertTrue(same(make_record(word, listed(question)), record) and is_tupled(record))
            self.tells((), wrong_records, [record])

    def test_records_with_another_word_another_size(self):
        records = {word: make_record(word, question) for word, (_, question) in QUESTIONS.items()}
        for one, other in itertools.permutations(records, 2):
            self.holds_just_if(False, record_holds, (other,) + records[one][1:])
        for word, question, value in records.values():
            for record in ((word, question), (word, question, value, value), (word, question + (0,), value),
                           (word, question[:-1], value), (word, question, (value,)), (word + " ", question, value),
                           (word, (question,), value), (None, question, value), (word, question, None)):
                self.holds_just_if(False, record_holds, record)

    def test_records_with_lists_at_any_depth(self):
        for word, (_, question) in QUESTIONS.items():
            record = make_record(word, question)
            self.holds_just_if(False, record_holds, list(record))
            for changed in self.with_one_list(record):
                self.holds_just_if(False, record_holds, changed)

    def with_one_list(self, value):
        if isinstance(value, tuple):
            yield list(value)
            for at, item in enumerate(value):
                for changed in self.with_one_list(item):
                    yield value[:at] + (changed,) + value[at + 1:]

    def test_records_changed_a_little(self):
        # What is told has to hold for the question; the latter function raises no error here.
        for word, (_, question) in QUESTIONS.items():
            record = make_record(word, question)
            kept = 0
            for value in changed_a_little(record):
                told = record_holds(value)
                self.assertIn(told, (True, False))
                kept += told
                if told:
                    self.assertTrue(is_tupled(value))
                    self.assertEqual(wrong_records((value, record, None)), (2,))
            self.assertLess(kept, 60)

    def test_questions_for_which_an_error_is_raised(self):
        for record in (("court", (None,), ("open", ())), ("together", (HALL, 0, 99), ("lot", (0,))),
                       ("served", (read_drawing(".."), 3), ("served", (), (), ())), ("passings", ((), ()), ("live", ())),
                       ("till", ((), None), ("given", ())), ("promise", (((1, 0),), (), ()), ("kept", ())),
                       ("standing", (read_drawing("P>H"), (), ()), ("moves", ()))):
            self.holds_just_if(False, record_holds, record)

    def test_any_value(self):
        for value in odd_values():
            self.holds_just_if(False, record_holds, value)
            for word, (paper, question) in QUESTIONS.items():
                for item in ((value, question, paper(*question)), (word, value, paper(*question)), (word, question, value)):
                    self.holds_just_if(False, record_holds, item)
                for at in range(len(question)):
                    odd = question[:at] + (value,) + question[at + 1:]
                    record = (word, odd, paper(*question))
                    self.assertIn(record_holds(record), (True, False))

    def test_records_that_are_made_hold(self):
        chance = random.Random(1)
        made = {}
        for _ in range(400):
            hall = random_hall(chance, 7)
            cells = [chance.randrange(hall.cells) for _ in range(4)]
            lost = list(dict.fromkeys(cells[2:]))
            robots = min(2, hall.cells)
            standings = [list(zip(range(robots), chance.sample(range(hall.cells), robots))) for _ in range(2)]
            goods = [[chance.randint(0, 1), chance.randint(0, 4), chance.randint(1, 4)] for _ in range(4)]
            for word, question in (("court", [hall]), ("together", [hall] + cells[:2]), ("parts", [hall] + cells[:2]),
                                   ("fetch", [hall, lost] + cells[:2]), ("served", [hall, chance.randint(1, 9)]),
                                   ("standing", [hall] + standings), ("promise", [[[1, 3]], goods[:2], goods[2:]]),
                                   ("till", [goods[:2], goods[2:]]), ("freed", [hall, lost, cells[0]])):
                try:
                    record = make_record(word, question)
                except Refused:
                    continue
                made[word] = made.get(word, 0) + 1
                self.assertTrue(is_tupled(record))
                self.holds_just_if(True, record_holds, record)
        self.assertEqual(len(made), 9)
        self.assertTrue(all(count > 50 for count in made.values()), made)

    def test_wrong_records(self):
        records = [make_record(word, question) for word, (_, question) in QUESTIONS.items()]
        self.tells((), wrong_records, records)
        self.tells((), wrong_records, ())
        self.tells((0, 2, 12), wrong_records, [None, records[0], list(records[1])] + records[1:] + [()])
        for value in no_sequences():
            self.told(Refused, "records", wrong_records, value)

    def test_words_and_questions_that_are_none(self):
        for word in odd_values() + ["courts", "Court", ("court",)]:
            self.told(Refused, "word", make_record, word, None)
        for word, (_, question) in QUESTIONS.items():
            for value in no_sequences() + [question[:-1], question + question[-1:], []]:
                self.told(Refused, "question", make_record, word, value)

    def test_the_former_function_s_errors(self):
        for word, question, error, kept in (
                ("court", [None], InvalidHall, -1), ("together", [HALL, 9, 9], InvalidCell, 0),
                ("parts", [HALL, 0, 0], Refused, -1), ("fetch", [HALL, [1, 1], 0, 0], InvalidLot, 1),
                ("fetch", [HALL, [1], 0, 9], InvalidCell, 1), ("served", [HALL, 0], InvalidSize, "full"),
                ("served", [TWO_WAY, 1], Refused, -1), ("standing", [TWO_WAY, [[0, 9]], None], InvalidStanding, 0),
                ("standing", [TWO_WAY, [[0, 1]], []], Refused, "robots"), ("promise", [None, [], []], InvalidGoods, -1),
                ("promise", [[], [None], []], InvalidComings, 0), ("till", [None, []], InvalidLots, -1),
                ("till", [[], [[1, 2]]], InvalidLines, 0), ("passings", [[[0, 0]], []], InvalidRoutes, 0),
                ("passings", [[[0, 1]], []], InvalidOrders, 0), ("freed", [HALL, [], 9], InvalidCell, 0)):
            self.told(error, kept, make_record, word, question)

    def test_each_odd_question(self):
        for word, (_, question) in QUESTIONS.items():
            for value in odd_values():
                for at in range(len(question)):
                    try:
                        record = make_record(word, question[:at] + (value,) + question[at + 1:])
                    except HallError:
                        continue
                    self.holds_just_if(True, record_holds, record)
        self.assertTrue(issubclass(Hall, object))


if __name__ == "__main__":
    unittest.main()
