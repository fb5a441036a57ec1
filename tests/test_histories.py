from helpers import NO_CONTENTS, KeptCase, shop_schema
from keptbase.errors import InvalidSeen, NoSuchEntry
from keptbase.histories import History
from keptbase.transactions import Transaction
from keptbase.writes import PutRow

SHOP = shop_schema()
FIVE = [Transaction(SHOP, [], [PutRow("item", key)]) for key in range(1, 6)]


class Histories(KeptCase):
    def test_attributes(self):
        for entries in ([], [(FIVE[0], 0)], [(FIVE[0], 0), (FIVE[1], 1), (FIVE[0], 0), (FIVE[3], 3), (FIVE[4], 2)]):
            for given in (entries, tuple(entries)):
                found = History(SHOP, given)
                self.assertIs(found.schema, SHOP)
                self.assertEqual((type(found.transactions), type(found.seen), found.size), (tuple, tuple, len(entries)))
                self.assertEqual([id(transaction) for transaction in found.transactions], [id(one) for one, _ in entries])
                self.assertEqual(found.seen, tuple(seen for _, seen in entries))
        self.assertEqual(History(SHOP).size, 0)

    def test_lists_are_copied(self):
        entries = [(FIVE[0], 0)]
        found = History(SHOP, entries)
        entries.append("more")
        self.assertEqual((found.size, found.seen), (1, (0,)))

    def test_invalid_seen(self):
        for at in range(4):
            for wrong in [-1, at + 1, at + 2, 10 ** 12, None, *NO_CONTENTS]:
                entries = [(FIVE[0], 0)] * at + [(FIVE[1], wrong), (FIVE[2], "later"), (FIVE[3], 0)]
                self.assert_error(InvalidSeen, {"entry": at + 1}, History, SHOP, entries)
            for seen in range(at + 1):
                self.assertEqual(History(SHOP, [(FIVE[0], 0)] * at + [(FIVE[1], seen)]).seen[at], seen)

    def test_with_entry(self):
        found = History(SHOP, [(FIVE[0], 0), (FIVE[1], 1)])
        for seen in range(3):
            longer = found.with_entry(FIVE[4], seen)
            self.assertEqual((type(longer), longer.seen, longer.size), (History, (0, 1, seen), 3))
            self.assertIs(longer.transactions[2], FIVE[4])
        self.assertEqual((found.size, found.seen), (2, (0, 1)))
        for wrong in (-1, 3, None, *NO_CONTENTS):
            self.assert_error(InvalidSeen, {"entry": 3}, found.with_entry, FIVE[4], wrong)

    def test_without(self):
        found = History(SHOP, list(zip(FIVE, (0, 1, 0, 3, 4))))
        cases = [([], [0, 1, 2, 3, 4], (0, 1, 0, 3, 4)), ([1], [1, 2, 3, 4], (0, 0, 2, 3)), ([2, 2], [0, 2, 3, 4], (0, 0, 2, 3)),
                 ([3, 1], [1, 3, 4], (0, 1, 2)), ([5], [0, 1, 2, 3], (0, 1, 0, 3)), ((4, 3, 4), [0, 1, 4], (0, 1, 2)),
                 ([5, 4, 3, 2, 1], [], ())]
        for numbers, left, seen in cases:
            shorter = found.without(numbers)
            self.assertEqual((type(shorter), shorter.seen, shorter.size), (History, seen, len(left)))
            self.assertEqual([id(one) for one in shorter.transactions], [id(FIVE[at]) for at in left])
        self.assertEqual((found.size, found.seen), (5, (0, 1, 0, 3, 4)))

    def test_without_no_entry(self):
        found = History(SHOP, list(zip(FIVE, (0, 1, 0, 3, 4))))
        for wrong in [0, -1, 6, 10 ** 12, None, *NO_CONTENTS]:
            self.assert_error(NoSuchEntry, {"entry": wrong}, found.without, [1, wrong, 7])
        self.assert_error(NoSuchEntry, {"entry": 1}, History(SHOP).without, [1])
