"""9.1, 0.2 (f), and 0.3 as far as it speaks of journals."""

import copy
import itertools
import unittest

from bydocument import done_by_document, exchanged_by_document
from glazework.errors import Held, NoDeed, NotSo
from glazework.journals import Journal
from samples import (
    CLEAR, HALF, ONE, PICTURES, RED, WHITE, ZERO,
    Draws, group, layer, picture, plain, tone,
)

START = picture(2, 1, (layer("a", plain(2, 1, CLEAR)), group("g", (layer("b"), tone("t"))), tone("u")))
FADE = ("strength", "a", ONE, HALF)
FADE_MORE = ("strength", "a", HALF, ZERO)
HIDE = ("shown", "a", True, False)
DOT = ("spot", "a", 1, 0, CLEAR, RED)
NEW = ("put", "", 0, layer("n", plain(1, 1, WHITE)))
GONE = ("out", "g", 0, layer("b"))


def journal(start, deeds):
    told = Journal(start)
    for deed in deeds:
        told.do(deed)
    return told


def picture_behind(start, deeds):
    for deed in deeds:
        start = done_by_document(start, deed)
    return start


def held_by_document(deeds, number):
    """The number of the one that holds a deed, None without; all others, and the deed as it is last."""
    deed, others = deeds[number], list(deeds[:number])
    for place in range(number + 1, len(deeds)):
        told = exchanged_by_document(deed, deeds[place])
        if told is None:
            return place, None, None
        others.append(told[0])
        deed = told[1]
    return None, others, deed


class JournalCase(unittest.TestCase):
    def asked(self, kept, start, deeds):
        self.assertEqual(kept.beginning(), start)
        self.assertEqual(kept.deeds(), deeds)
        self.assertIs(type(kept.deeds()), list)
        self.assertEqual(kept.now(), picture_behind(start, deeds))

    def refused(self, error, kept, deed, thing):
        before = (kept.now(), kept.beginning(), kept.deeds())
        with self.assertRaises(error) as caught:
            deed(thing)
        self.assertIs(type(caught.exception), error)
        self.assertEqual((kept.now(), kept.beginning(), kept.deeds()), before)


class Kept(JournalCase):
    def test_a_journal_without_deeds(self):
        for one in PICTURES + (START, picture(1, 1)):
            self.asked(Journal(one), one, [])

    def test_deeds_are_kept_in_their_order(self):
        deeds = [FADE, HIDE, NEW, DOT, GONE, FADE_MORE]
        kept = Journal(START)
        for number, deed in enumerate(deeds):
            self.assertIsNone(kept.do(deed))
            self.asked(kept, START, deeds[:number + 1])

    def test_the_same_deed_again(self):
        same = ("strength", "a", ONE, ONE)
        self.asked(journal(START, [same, same]), START, [same, same])

    def test_not_so(self):
        kept = journal(START, [FADE])
        for deed in (
            FADE, ("strength", "none", ONE, HALF), ("manner", "u", "over", "cut"), ("place", "g", (0, 0), (1, 1)),
            ("spot", "a", 2, 0, CLEAR, RED), ("put", "", 4, layer("n")), ("put", "a", 0, layer("n")),
            ("put", "", 0, layer("t")), ("out", "", 0, layer("b")), ("out", "g", 2, layer("b")),
        ):
            self.refused(NotSo, kept, kept.do, deed)
            self.asked(kept, START, [FADE])
        kept.do(FADE_MORE)
        self.asked(kept, START, [FADE, FADE_MORE])


class TakenBack(JournalCase):
    def takes(self, kept, number, wanted, start, deeds):
        self.assertIsNone(kept.held_by(number))
        self.assertEqual(kept.take_back(number), wanted)
        self.asked(kept, start, deeds)

    def test_from_the_last_one(self):
        deeds = [FADE, FADE_MORE, HIDE, NEW, DOT, GONE]
        kept = journal(START, deeds)
        while deeds:
            last = deeds.pop()
            self.takes(kept, len(deeds), last, START, deeds)
        self.assertEqual(kept.now(), START)

    def test_from_the_first_one(self):
        deeds = [FADE, HIDE, NEW, DOT, GONE]
        kept = journal(START, deeds)
        while deeds:
            first = deeds.pop(0)
            self.takes(kept, 0, first, START, deeds)
        self.assertEqual(kept.now(), START)

    def test_as_if_it_had_never_been(self):
        kept = journal(START, [FADE, DOT, HIDE])
        self.takes(kept, 1, DOT, START, [FADE, HIDE])
        kept.do(DOT)
        self.asked(kept, START, [FADE, HIDE, DOT])

    def test_the_deed_as_it_was_last(self):
        first = ("put", "", 1, tone("n"))
        kept = journal(START, [first, ("put", "", 0, tone("m")), ("put", "", 4, tone("o")), ("out", "", 5, tone("u"))])
        deeds = [("put", "", 0, tone("m")), ("put", "", 3, tone("o")), ("out", "", 4, tone("u"))]
        self.takes(kept, 0, ("put", "", 2, tone("n")), START, deeds)

    def test_an_out_as_it_was_last(self):
        kept = journal(START, [("out", "", 1, START[2][1]), ("put", "", 0, tone("m")), ("put", "", 3, tone("o"))])
        deeds = [("put", "", 0, tone("m")), ("put", "", 4, tone("o"))]
        self.takes(kept, 0, ("out", "", 2, START[2][1]), START, deeds)

    def test_one_that_is_held(self):
        deeds = [FADE, HIDE, NEW, FADE_MORE, GONE, ("strength", "a", ZERO, ONE)]
        kept = journal(START, deeds)
        for number, holder in enumerate((3, None, None, 5, None, None)):
            self.assertEqual(kept.held_by(number), holder)
        for number in (0, 3):
            self.refused(Held, kept, kept.take_back, number)
        self.asked(kept, START, deeds)

    def test_the_first_that_holds(self):
        deeds = [FADE, HIDE, FADE_MORE, ("strength", "a", ZERO, ONE), ("strength", "a", ONE, ZERO)]
        self.assertEqual(journal(START, deeds).held_by(0), 2)

    def test_held_as_it_is_exchanged(self):
        # The put has the number 1 at first, and 3 behind the others: the out of the tone at 2 holds it, that at 5 not.
        puts = [("put", "", 1, tone("n")), ("put", "", 0, tone("m")), ("put", "", 0, tone("l"))]
        kept = journal(START, puts + [("out", "", 5, tone("u"))])
        self.assertIsNone(kept.held_by(0))
        kept = journal(START, puts + [("out", "", 2, START[2][0])])
        self.assertEqual(kept.held_by(0), 3)
        self.refused(Held, kept, kept.take_back, 0)

    def test_free_again(self):
        kept = journal(START, [FADE, HIDE, FADE_MORE])
        self.refused(Held, kept, kept.take_back, 0)
        self.takes(kept, 2, FADE_MORE, START, [FADE, HIDE])
        self.takes(kept, 0, FADE, START, [HIDE])

    def test_held_by_what_came_into_a_node(self):
        kept = journal(START, [("put", "", 3, group("n")), ("put", "n", 0, layer("m")), ("shown", "m", True, False)])
        self.assertEqual([kept.held_by(number) for number in range(3)], [1, 2, None])

    def test_no_deed(self):
        for kept in (Journal(START), journal(START, [FADE]), journal(START, [FADE, HIDE, FADE_MORE])):
            many = len(kept.deeds())
            for number in (many, many + 1, -1, -2, -many, -many - 1, 10 ** 30, -10 ** 30, 10 ** 5000, -10 ** 5000):
                if number != 0 or many == 0:
                    self.refused(NoDeed, kept, kept.held_by, number)
                    self.refused(NoDeed, kept, kept.take_back, number)

    def test_no_deed_any_more(self):
        kept = journal(START, [FADE])
        kept.take_back(0)
        self.refused(NoDeed, kept, kept.take_back, 0)

    def test_asking_changes_nothing(self):
        deeds = [NEW, GONE, ("put", "", 0, tone("m"))]
        kept = journal(START, deeds)
        for number in range(3):
            kept.held_by(number)
            self.asked(kept, START, deeds)


class ByItself(JournalCase):
    def test_told_lists_are_new_ones(self):
        kept = journal(START, [FADE, HIDE])
        kept.deeds().clear()
        told = kept.deeds()
        told.append(DOT)
        told[0] = GONE
        self.asked(kept, START, [FADE, HIDE])
        kept.do(DOT)
        self.assertEqual(told, [GONE, HIDE, DOT])
        before = kept.deeds()
        kept.take_back(0)
        self.assertEqual(before, [FADE, HIDE, DOT])

    def test_two_journals(self):
        one, other = Journal(START), Journal(START)
        one.do(FADE)
        other.do(HIDE)
        one.do(DOT)
        self.asked(one, START, [FADE, DOT])
        self.asked(other, START, [HIDE])
        one.take_back(0)
        self.asked(one, START, [DOT])
        self.asked(other, START, [HIDE])

    def test_what_is_handed_in_is_not_changed(self):
        deeds = [FADE, NEW, DOT, GONE]
        before = copy.deepcopy((START, deeds))
        kept = journal(START, deeds)
        for number in (1, 0, 1, 0):
            kept.take_back(number)
        self.assertEqual((START, deeds), before)
        self.asked(kept, START, [])


class AllPictures(JournalCase):
    def drawn(self, draws, start, many):
        deeds, one = [], start
        while len(deeds) < many:
            deed = draws.deed(one)
            behind = done_by_document(one, deed)
            if behind is not None:
                deeds.append(deed)
                one = behind
        return deeds

    def test_each_one_of_each_journal(self):
        draws = Draws(41)
        held = 0
        for start in PICTURES[:60]:
            deeds = self.drawn(draws, start, 6)
            for number in range(len(deeds)):
                kept = journal(start, deeds)
                holder, others, last = held_by_document(deeds, number)
                self.assertEqual(kept.held_by(number), holder)
                if holder is None:
                    self.assertEqual(kept.take_back(number), last)
                    self.asked(kept, start, others)
                else:
                    held += 1
                    self.refused(Held, kept, kept.take_back, number)
        self.assertGreater(held, 20)

    def taken_in_order(self, start, deeds, order):
        """What is left, once deeds were taken back in an order, None where one of them is held."""
        kept = journal(start, deeds)
        left = list(range(len(deeds)))
        for number in order:
            try:
                kept.take_back(left.index(number))
            except Held:
                return None
            left.remove(number)
        self.asked(kept, start, kept.deeds())
        return kept.now(), kept.deeds()

    def test_in_whatever_order(self):
        draws = Draws(42)
        many = 0
        for start in PICTURES[:40]:
            deeds = self.drawn(draws, start, 5)
            for chosen in itertools.combinations(range(5), 3):
                told = [self.taken_in_order(start, deeds, order) for order in itertools.permutations(chosen)]
                told = [left for left in told if left is not None]
                for left in told[1:]:
                    many += 1
                    self.assertEqual(left, told[0])
        self.assertGreater(many, 100)

    def test_all_taken_back(self):
        draws = Draws(43)
        for start in PICTURES[:60]:
            deeds = self.drawn(draws, start, 8)
            kept = journal(start, deeds)
            for turn in range(8):
                free = [number for number in range(8 - turn) if kept.held_by(number) is None]
                self.assertIn(7 - turn, free)
                kept.take_back(draws.one_of(free))
            self.asked(kept, start, [])


if __name__ == "__main__":
    unittest.main()
