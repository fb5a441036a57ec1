import itertools
import random

from helpers import KeptCase
from keptbase.pieces import Piece, pieces, samples
from keptbase.spans import Span

WINDOW = (None, *range(-12, 13))
TEXTS = ["nothing", "none", "..", "none, ..", "0", "-3..3", "..-2, 5..", "none, 1..4, 6..7", "..0", "2..", "-6, -4, 4",
         "none, -1..1", "3..5"]


def colour(content, cuts):
    return tuple(content in cut for cut in cuts)


def some_cuts():
    chance = random.Random(8)
    found = [[]]
    while len(found) < 40:
        found.append([Span.read(chance.choice(TEXTS)) for _ in range(chance.randrange(1, 4))])
    return found


class Pieces(KeptCase):
    def setUp(self):
        self.worlds = list(itertools.product([Span.read(text) for text in TEXTS], some_cuts()))

    def test_each_content_is_in_one_piece_with_its_colour(self):
        for domain, cuts in self.worlds:
            found = pieces(domain, cuts)
            for content in WINDOW:
                owners = [piece for piece in found if content in piece.span]
                self.assertEqual(len(owners), 1 if content in domain else 0)
                for piece in owners:
                    self.assertEqual(piece.colour, colour(content, cuts))
                    self.assertIs(type(piece.colour), tuple)
                    self.assertTrue(all(type(part) is bool for part in piece.colour))

    def test_pieces_are_none_alone_or_one_stretch(self):
        for domain, cuts in self.worlds:
            for at, piece in enumerate(pieces(domain, cuts)):
                self.assertIsInstance(piece, Piece)
                self.assertEqual(len(piece.span.stretches), 0 if piece.span.has_none else 1)
                self.assertTrue(at == 0 or not piece.span.has_none)

    def test_they_ascend_and_are_as_few_as_possible(self):
        for domain, cuts in self.worlds:
            found = [piece for piece in pieces(domain, cuts) if not piece.span.has_none]
            for first, second in zip(found, found[1:]):
                high, low = first.span.stretches[0][1], second.span.stretches[0][0]
                self.assertLess(high, low)
                if low == high + 1:
                    self.assertNotEqual(first.colour, second.colour)

    def test_worked_example(self):
        domain = Span([(4, 10), (-2, 3)], has_none=True)
        cuts = [Span([(3, None)]), Span.of(None, 5)]
        found = pieces(domain, cuts)
        shown = (str(domain), str(~domain), len(found), found[0].colour, str(found[1].span), samples(domain, cuts, 2))
        self.assertEqual(shown, ("none, -2..10", "..-3, 11..", 5, (False, True), "-2..2",
                                 [None, 0, -1, 3, 4, 5, 6, 7]))

    def test_edges(self):
        self.assertEqual(pieces(Span(), [Span.everything()]), [])
        self.assertEqual(samples(Span(), [], 2), [])
        everything = pieces(Span.everything(), ())
        self.assertEqual([(str(piece.span), piece.colour) for piece in everything], [("none", ()), ("..", ())])
        big = 10 ** 12
        found = pieces(Span([(-big, big)]), (Span.of(big), Span.of(big)))
        self.assertEqual([(str(piece.span), piece.colour) for piece in found],
                         [(f"{-big}..{big - 1}", (False, False)), (str(big), (True, True))])

    def test_the_list_of_cuts_is_not_changed(self):
        cuts = [Span.of(1), Span.of(2)]
        found = pieces(Span.numbers(), cuts)
        cuts.clear()
        self.assertEqual([piece.colour for piece in found],
                         [(False, False), (True, False), (False, True), (False, False)])


class MembersAndSamples(KeptCase):
    def test_members_by_distance_from_zero(self):
        cases = [("none", [None]), ("..", [0, -1, 1, -2, 2, -3]), ("3..5", [3, 4, 5]), ("3..", [3, 4, 5, 6, 7, 8]),
                 ("-5..-3", [-3, -4, -5]), ("..-3", [-3, -4, -5, -6, -7, -8]), ("-1..4", [0, -1, 1, 2, 3, 4]),
                 ("-4..1", [0, -1, 1, -2, -3, -4]), ("0", [0]), ("..1", [0, -1, 1, -2, -3, -4]),
                 ("-1..", [0, -1, 1, 2, 3, 4])]
        for text, members in cases:
            piece = pieces(Span.read(text), [])[0]
            for many in range(7):
                self.assertEqual(piece.members(many), members[:many])

    def test_members_are_new_lists(self):
        piece = pieces(Span.of(None), [])[0]
        piece.members(3).append(1)
        self.assertEqual(piece.members(3), [None])

    def test_samples_piece_by_piece(self):
        for text in TEXTS:
            for cuts in some_cuts():
                domain = Span.read(text)
                for many in (0, 1, 2, 5):
                    found = []
                    for piece in pieces(domain, cuts):
                        found.extend(piece.members(many))
                    self.assertEqual(samples(domain, cuts, many), found)
                    self.assertEqual(samples(domain, tuple(cuts), many), found)

    def test_two_samples_for_any_two_contents(self):
        for text in TEXTS:
            for cuts in some_cuts()[:15]:
                domain = Span.read(text)
                found = pieces(domain, cuts)
                known = samples(domain, cuts, 2)
                inside = [content for content in WINDOW if content in domain]
                for pair in itertools.combinations(inside, 2):
                    first, second = [[piece for piece in found if content in piece.span][0] for content in pair]
                    chosen = [(one, two) for one in known for two in known
                              if one != two and one in first.span and two in second.span]
                    self.assertTrue(chosen)
