import random

from helpers import NO_CONTENTS, KeptCase, answer_by_words, mixed_world, wide_world
from keptbase.errors import NoSuchEntry
from keptbase.grips import unseated
from keptbase.layers import Layer
from keptbase.logs import Log
from keptbase.matching import Misfit
from keptbase.questions import Question
from keptbase.schema import Schema, Table
from keptbase.spans import Span
from keptbase.taking import can_take_out, taking_misfit
from keptbase.versions import state_of
from scenes import PlainLog

WORLDS = [wide_world(), mixed_world()]
ACCT = Schema([Table("acct", Span([(1, 9)]), [("cents", Span.everything()), ("limit", Span.everything())])])
TOTAL = Question(ACCT, "sum", "acct", ["cents"])


class Taking(KeptCase):
    def test_all_entries_of_random_logs(self):
        chance, seen = random.Random(51), set()
        for world in WORLDS:
            questions = world.questions(every=9) + world.questions(every=5, conditions=world.conditions()[:1])
            for _ in range(90):
                plain = PlainLog(world, chance, chance.choice([1, 2, 3, 3, 4]), questions, chance.choice([0.25, 0.4, 0.6]))
                log = Log(world.schema, plain.entries())
                for number in range(1, log.size + 1):
                    fault, found = plain.taking_fault(number), taking_misfit(log, number)
                    self.assert_is(fault is None, found is None)
                    self.assert_is(fault is None, can_take_out(log, number))
                    seen.add(fault if fault is None else fault[1])
                    if fault is not None:
                        self.check_misfit(log, found, fault, number)
        self.assertEqual(seen, {None, "layer", 0, 1})

    def check_misfit(self, log, found, fault, number):
        """Whether a misfit tells what is wrong first without an entry."""
        self.assertIs(type(found), Misfit)
        self.assertEqual(found.entry, fault[0])
        ahead = [entry for entry in range(1, found.entry) if entry != number]
        if fault[1] == "layer":
            self.assertEqual(found.cell, unseated(log.layers[found.entry - 1], state_of(log, ahead).as_store()))
            self.assertEqual([found.asked, found.sight, found.heard, found.other], [None] * 4)
            return
        self.assertEqual((found.cell, found.asked), (None, fault[1]))
        question, many = log.asks[found.entry - 1][found.asked], log.seen[found.entry - 1]
        parts = [state_of(log, list(range(1, many + 1))), state_of(log, [entry for entry in ahead if entry <= many])]
        for part, told in zip(parts, (found.heard, found.other)):
            expected = answer_by_words(question, part.as_store(), found.sight)
            self.assertEqual((type(told), told), (type(expected), expected))
        self.assertNotEqual(found.heard, found.other)

    def test_heard_of_and_not(self):
        put, cents = Layer(ACCT, [("acct", 1, None, (5, 5))]), Layer(ACCT, [("acct", 2, (7, 0), (9, 0))])
        for seen, taken in ((2, [False, False, True]), (1, [False, True, True]), (0, [True, True, True])):
            log = Log(ACCT, [([], 0, put), ([], 0, cents), ([TOTAL], seen, Layer(ACCT))])
            self.assertEqual([can_take_out(log, at) for at in (1, 2, 3)], taken)
        found = taking_misfit(Log(ACCT, [([], 0, put), ([], 0, cents), ([TOTAL], 2, Layer(ACCT))]), 1)
        self.assertEqual((found.entry, found.cell, found.asked, found.heard, found.other), (3, None, 0, 14, 9))

    def test_the_layer_ahead_of_the_asks(self):
        put, more = Layer(ACCT, [("acct", 1, None, (5, 5))]), Layer(ACCT, [("acct", 1, (5, 5), (6, 5))])
        log = Log(ACCT, [([], 0, put), ([TOTAL], 1, more)])
        found = taking_misfit(log, 1)
        self.assertEqual((found.entry, found.cell, found.asked, found.sight), (2, ("acct", 1, "there"), None, None))
        self.assertIsNone(taking_misfit(log, 2))
        limit = Layer(ACCT, [("acct", 1, (6, 5), (6, 8))])
        log = Log(ACCT, [([], 0, put), ([], 1, more), ([TOTAL], 0, limit)])
        self.assertEqual([can_take_out(log, at) for at in (1, 2, 3)], [False, True, True])

    def test_two_that_undo_each_other(self):
        put = Layer(ACCT, [("acct", 1, None, (5, 5))])
        log = Log(ACCT, [([], 0, put), ([], 1, -put), ([TOTAL], 2, put)])
        self.assertEqual([taking_misfit(log, at) and taking_misfit(log, at).entry for at in (1, 2, 3)], [2, 3, None])

    def test_one_entry(self):
        self.assert_is(True, can_take_out(Log(ACCT, [([TOTAL], 0, Layer(ACCT, [("acct", 1, None, (5, 5))]))]), 1))

    def test_no_such_entry(self):
        log = Log(ACCT, [([], 0, Layer(ACCT)), ([TOTAL], 1, Layer(ACCT))])
        for wrong in (0, 3, -1, None, *NO_CONTENTS):
            for call in (taking_misfit, can_take_out):
                self.assert_error(NoSuchEntry, {"entry": wrong}, call, log, wrong)
        self.assert_error(NoSuchEntry, {"entry": 1}, can_take_out, Log(ACCT), 1)
