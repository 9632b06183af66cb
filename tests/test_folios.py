"""13.1, 13.2, 0.2 (j), and 0.3 as far as it speaks of folios."""

import copy
import unittest

from bydocument import blended_by_document
from glazework.errors import GlazeError, NoDeed, NoMerge, NoName
from glazework.folios import Folio
from samples import BLACK, BROAD, CLEAR, DIM, MANNERS, PALE, RED, SPOTS, WHITE, Draws, plain

ONE = (2, 1, (RED, PALE))
OTHER = (2, 1, (DIM, WHITE))
THIRD = (2, 1, (CLEAR, BLACK))


def blended_sheets(manner, above, below):
    spots = [blended_by_document(manner, one, other) for one, other in zip(above[2], below[2])]
    return below[:2] + (tuple(spots),)


def folio_of(sheets):
    folio = Folio()
    for name, sheet in sheets.items():
        folio.lay(name, sheet)
    return folio


def state_of(folio):
    return {name: folio.fetch(name) for name in folio.names()}


class FolioCase(unittest.TestCase):
    def asked(self, folio, sheets, counts):
        self.assertEqual(folio.names(), sorted(sheets))
        self.assertIs(type(folio.names()), list)
        for name, sheet in sheets.items():
            self.assertEqual(folio.fetch(name), sheet)
        self.assertEqual(folio.counts(), counts)
        self.assertIs(type(folio.counts()), tuple)

    def refused(self, error, folio, deed, *things):
        before = state_of(folio), folio.counts()
        with self.assertRaises(error) as caught:
            deed(*things)
        self.assertIs(type(caught.exception), error)
        self.assertIsInstance(caught.exception, GlazeError)
        self.assertEqual((state_of(folio), folio.counts()), before)


class Sheets(FolioCase):
    def test_no_sheets_at_first(self):
        folio = Folio()
        self.asked(folio, {}, (0, 0))
        for name in ("a", "abcdef", ""):
            self.refused(NoName, folio, folio.fetch, name)
            self.refused(NoName, folio, folio.take_off, name)
            self.refused(NoName, folio, folio.blend, "over", name, name)

    def test_lay(self):
        folio = Folio()
        self.assertIs(folio.lay("a", ONE), False)
        self.asked(folio, {"a": ONE}, (1, 0))
        self.assertIs(folio.lay("b", ONE), False)
        self.asked(folio, {"a": ONE, "b": ONE}, (2, 0))
        self.assertIs(folio.lay("a", BROAD), True)
        self.asked(folio, {"a": BROAD, "b": ONE}, (3, 0))
        self.assertIs(folio.lay("a", BROAD), True)
        self.asked(folio, {"a": BROAD, "b": ONE}, (4, 0))

    def test_lay_of_a_name_that_was_taken_off(self):
        folio = folio_of({"a": ONE})
        folio.take_off("a")
        self.assertIs(folio.lay("a", ONE), False)
        folio.back()
        self.assertIs(folio.lay("a", ONE), False)

    def test_fetch(self):
        folio = folio_of({"a": ONE, "b": BROAD})
        for turn in range(2):
            self.assertEqual(folio.fetch("a"), ONE)
            self.assertEqual(folio.fetch("b"), BROAD)
        for name in ("c", "aa", "A", ""):
            self.refused(NoName, folio, folio.fetch, name)
        self.asked(folio, {"a": ONE, "b": BROAD}, (2, 0))

    def test_take_off(self):
        folio = folio_of({"a": ONE, "b": BROAD, "c": ONE})
        self.assertEqual(folio.take_off("b"), BROAD)
        self.asked(folio, {"a": ONE, "c": ONE}, (4, 0))
        for name in ("b", "d", "cc"):
            self.refused(NoName, folio, folio.take_off, name)
        self.refused(NoName, folio, folio.fetch, "b")
        self.assertEqual(folio.take_off("a"), ONE)
        self.assertEqual(folio.take_off("c"), ONE)
        self.asked(folio, {}, (6, 0))

    def test_blend_of_two_names(self):
        for manner in MANNERS:
            folio = folio_of({"a": ONE, "b": OTHER, "c": THIRD})
            wanted = blended_sheets(manner, ONE, OTHER)
            self.assertEqual(folio.blend(manner, "a", "b"), wanted)
            self.asked(folio, {"a": ONE, "b": wanted, "c": THIRD}, (4, 0))
            again = blended_sheets(manner, wanted, ONE)
            self.assertEqual(folio.blend(manner, "b", "a"), again)
            self.asked(folio, {"a": again, "b": wanted, "c": THIRD}, (5, 0))

    def test_blend_of_one_name_with_itself(self):
        for manner in MANNERS:
            folio = folio_of({"a": BROAD, "b": OTHER})
            wanted = blended_sheets(manner, BROAD, BROAD)
            self.assertEqual(folio.blend(manner, "a", "a"), wanted)
            self.asked(folio, {"a": wanted, "b": OTHER}, (3, 0))

    def test_blend_of_unlike_sizes(self):
        sheets = {"a": plain(2, 1), "b": plain(1, 2), "c": plain(2, 2), "d": plain(4, 1), "e": plain(2, 3)}
        folio = folio_of(sheets)
        for above in sheets:
            for below in sheets:
                if above != below:
                    for manner in MANNERS:
                        self.refused(NoMerge, folio, folio.blend, manner, above, below)
        self.asked(folio, sheets, (5, 0))

    def test_blend_with_names_that_have_none(self):
        folio = folio_of({"a": ONE, "b": BROAD})
        for above, below in (("c", "a"), ("a", "c"), ("c", "c"), ("c", "d"), ("c", "b"), ("b", "c"), ("", "a")):
            self.refused(NoName, folio, folio.blend, "over", above, below)
        self.refused(NoMerge, folio, folio.blend, "over", "a", "b")
        self.asked(folio, {"a": ONE, "b": BROAD}, (2, 0))

    def test_names_rise(self):
        names = ("b", "a", "zz", "z", "abc", "ab", "m", "zzzzzz")
        folio = folio_of({name: ONE for name in names})
        self.assertEqual(folio.names(), ["a", "ab", "abc", "b", "m", "z", "zz", "zzzzzz"])
        folio.lay("aa", ONE)
        folio.take_off("b")
        self.assertEqual(folio.names(), ["a", "aa", "ab", "abc", "m", "z", "zz", "zzzzzz"])

    def test_told_lists_are_new_ones(self):
        folio = folio_of({"a": ONE, "b": OTHER})
        folio.names().clear()
        told = folio.names()
        told.append("c")
        told[0] = "d"
        self.asked(folio, {"a": ONE, "b": OTHER}, (2, 0))
        folio.lay("e", ONE)
        self.assertEqual(told, ["d", "b", "c"])

    def test_what_is_handed_in_is_not_changed(self):
        before = copy.deepcopy((ONE, OTHER))
        folio = folio_of({"a": ONE, "b": OTHER})
        folio.blend("plus", "a", "b")
        folio.blend("cut", "b", "b")
        folio.take_off("a")
        self.assertEqual((ONE, OTHER), before)

    def test_two_folios_go_by_themselves(self):
        one, other = Folio(), Folio()
        one.lay("a", ONE)
        self.asked(other, {}, (0, 0))
        other.lay("a", OTHER)
        other.lay("b", THIRD)
        self.asked(one, {"a": ONE}, (1, 0))
        one.back()
        self.asked(one, {}, (0, 1))
        self.asked(other, {"a": OTHER, "b": THIRD}, (2, 0))


class Steps(FolioCase):
    def there_and_back(self, folio, word):
        """Asks for the last step taken back, done again, and taken back once more."""
        behind, counts = state_of(folio), folio.counts()
        self.assertEqual(folio.back(), word)
        ahead = state_of(folio)
        self.asked(folio, ahead, (counts[0] - 1, counts[1] + 1))
        self.assertEqual(folio.forth(), word)
        self.asked(folio, behind, counts)
        self.assertEqual(folio.back(), word)
        self.asked(folio, ahead, (counts[0] - 1, counts[1] + 1))
        return ahead

    def test_none_at_first(self):
        folio = Folio()
        self.refused(NoDeed, folio, folio.back)
        self.refused(NoDeed, folio, folio.forth)

    def test_lay_of_a_new_name(self):
        folio = folio_of({"a": ONE})
        self.assertEqual(self.there_and_back(folio, "lay"), {})
        self.refused(NoDeed, folio, folio.back)
        self.refused(NoName, folio, folio.fetch, "a")

    def test_lay_of_another_sheet(self):
        folio = folio_of({"a": ONE})
        folio.lay("a", OTHER)
        self.assertEqual(self.there_and_back(folio, "lay"), {"a": ONE})

    def test_lay_of_the_same_sheet(self):
        folio = folio_of({"a": ONE})
        folio.lay("a", ONE)
        self.assertEqual(self.there_and_back(folio, "lay"), {"a": ONE})
        self.assertEqual(self.there_and_back(folio, "lay"), {})

    def test_take_off(self):
        folio = folio_of({"a": ONE, "b": OTHER})
        folio.take_off("a")
        self.assertEqual(self.there_and_back(folio, "take"), {"a": ONE, "b": OTHER})

    def test_blend(self):
        for manner in MANNERS:
            folio = folio_of({"a": ONE, "b": OTHER})
            folio.blend(manner, "a", "b")
            self.assertEqual(self.there_and_back(folio, "blend"), {"a": ONE, "b": OTHER})
            folio.blend(manner, "b", "b")
            self.assertEqual(self.there_and_back(folio, "blend"), {"a": ONE, "b": OTHER})

    def test_a_blend_that_changed_nothing(self):
        folio = folio_of({"a": plain(2, 1, CLEAR), "b": OTHER})
        folio.blend("over", "a", "b")
        self.asked(folio, {"a": plain(2, 1, CLEAR), "b": OTHER}, (3, 0))
        self.assertEqual(self.there_and_back(folio, "blend"), {"a": plain(2, 1, CLEAR), "b": OTHER})

    def test_a_blend_done_again_is_what_it_was(self):
        # What lies below is back then, what lies above is as it was.
        folio = folio_of({"a": ONE, "b": OTHER})
        folio.blend("plus", "a", "b")
        folio.take_off("a")
        folio.back()
        folio.back()
        folio.forth()
        self.asked(folio, {"a": ONE, "b": blended_sheets("plus", ONE, OTHER)}, (3, 1))

    def test_all_the_way(self):
        folio = Folio()
        folio.lay("a", ONE)
        folio.lay("b", OTHER)
        folio.blend("over", "a", "b")
        folio.take_off("a")
        folio.lay("a", BROAD)
        blend = blended_sheets("over", ONE, OTHER)
        states = [
            {}, {"a": ONE}, {"a": ONE, "b": OTHER}, {"a": ONE, "b": blend}, {"b": blend}, {"a": BROAD, "b": blend},
        ]
        words = ["lay", "lay", "blend", "take", "lay"]
        for turn in range(2):
            for number in range(5, 0, -1):
                self.asked(folio, states[number], (number, 5 - number))
                self.assertEqual(folio.back(), words[number - 1])
            self.refused(NoDeed, folio, folio.back)
            for number in range(5):
                self.asked(folio, states[number], (number, 5 - number))
                self.assertEqual(folio.forth(), words[number])
            self.refused(NoDeed, folio, folio.forth)

    def test_forth_behind_another_step(self):
        for step in (
            lambda folio: folio.lay("c", THIRD),
            lambda folio: folio.lay("a", ONE),
            lambda folio: folio.take_off("a"),
            lambda folio: folio.blend("over", "a", "a"),
        ):
            folio = folio_of({"a": ONE, "b": OTHER, "d": THIRD})
            folio.back()
            folio.back()
            self.assertEqual(folio.counts(), (1, 2))
            step(folio)
            self.assertEqual(folio.counts(), (2, 0))
            self.refused(NoDeed, folio, folio.forth)
            folio.back()
            self.asked(folio, {"a": ONE}, (1, 1))

    def test_what_is_refused_is_no_step(self):
        folio = folio_of({"a": ONE, "b": BROAD, "c": OTHER})
        folio.back()
        self.refused(NoName, folio, folio.take_off, "c")
        self.refused(NoName, folio, folio.fetch, "c")
        self.refused(NoName, folio, folio.blend, "over", "c", "a")
        self.refused(NoName, folio, folio.blend, "over", "a", "c")
        self.refused(NoMerge, folio, folio.blend, "over", "a", "b")
        self.assertEqual(folio.counts(), (2, 1))
        self.assertEqual(folio.forth(), "lay")
        self.asked(folio, {"a": ONE, "b": BROAD, "c": OTHER}, (3, 0))

    def test_asking_is_no_step(self):
        folio = folio_of({"a": ONE, "b": OTHER})
        folio.back()
        folio.fetch("a")
        folio.names()
        folio.counts()
        folio.twin()
        self.assertEqual(folio.counts(), (1, 1))
        self.assertEqual(folio.forth(), "lay")

    def test_back_is_not_taken_back(self):
        folio = folio_of({"a": ONE, "b": OTHER})
        folio.back()
        self.assertEqual(folio.back(), "lay")
        self.refused(NoDeed, folio, folio.back)
        self.asked(folio, {}, (0, 2))


class Twins(FolioCase):
    def start(self):
        folio = folio_of({"a": ONE, "b": OTHER})
        folio.blend("plus", "a", "b")
        folio.take_off("a")
        folio.back()
        return folio

    def state(self):
        return {"a": ONE, "b": blended_sheets("plus", ONE, OTHER)}

    def test_as_the_folio_is(self):
        folio = self.start()
        twin = folio.twin()
        self.assertIsInstance(twin, Folio)
        self.assertIsNot(twin, folio)
        self.asked(twin, self.state(), (3, 1))
        self.asked(folio, self.state(), (3, 1))

    def test_of_an_empty_folio(self):
        folio = Folio()
        twin = folio.twin()
        self.asked(twin, {}, (0, 0))
        self.refused(NoDeed, twin, twin.back)
        twin.lay("a", ONE)
        self.asked(folio, {}, (0, 0))

    def test_the_twin_goes_by_itself(self):
        folio = self.start()
        twin = folio.twin()
        twin.lay("c", THIRD)
        twin.lay("a", THIRD)
        self.asked(folio, self.state(), (3, 1))
        self.assertEqual(folio.forth(), "take")
        self.assertEqual(folio.names(), ["b"])
        self.asked(twin, dict(self.state(), a=THIRD, c=THIRD), (5, 0))

    def test_the_folio_goes_by_itself(self):
        folio = self.start()
        twin = folio.twin()
        folio.take_off("b")
        folio.lay("a", BROAD)
        self.asked(twin, self.state(), (3, 1))
        self.assertEqual(twin.forth(), "take")
        self.asked(twin, {"b": blended_sheets("plus", ONE, OTHER)}, (4, 0))
        self.asked(folio, {"a": BROAD}, (5, 0))

    def test_back_and_forth_on_both(self):
        folio = self.start()
        twin = folio.twin()
        self.assertEqual([twin.back(), twin.back(), twin.back()], ["blend", "lay", "lay"])
        self.asked(twin, {}, (0, 4))
        self.asked(folio, self.state(), (3, 1))
        self.assertEqual(folio.back(), "blend")
        self.asked(folio, {"a": ONE, "b": OTHER}, (2, 2))
        self.assertEqual([twin.forth(), twin.forth(), twin.forth(), twin.forth()], ["lay", "lay", "blend", "take"])
        self.asked(twin, {"b": blended_sheets("plus", ONE, OTHER)}, (4, 0))
        self.asked(folio, {"a": ONE, "b": OTHER}, (2, 2))

    def test_the_twin_of_a_twin(self):
        folio = self.start()
        twin = folio.twin()
        third = twin.twin()
        twin.back()
        folio.forth()
        self.asked(third, self.state(), (3, 1))
        third.take_off("a")
        third.take_off("b")
        self.asked(third, {}, (5, 0))
        self.asked(twin, {"a": ONE, "b": OTHER}, (2, 2))
        self.asked(folio, {"b": blended_sheets("plus", ONE, OTHER)}, (4, 0))


class Model:
    """A folio told by all states it went through, one behind another."""

    def __init__(self, states=({},), words=(), now=0):
        self.states, self.words, self.now = list(states), list(words), now

    def state(self):
        return self.states[self.now]

    def step(self, word, sheets):
        self.states = self.states[:self.now + 1] + [sheets]
        self.words = self.words[:self.now] + [word]
        self.now += 1

    def counts(self):
        return (self.now, len(self.words) - self.now)

    def twin(self):
        return Model(self.states, self.words, self.now)


class AllFolios(FolioCase):
    NAMES = ("a", "b", "c", "ab")

    def one_turn(self, draws, folio, model):
        kind, name, other = draws.below(7), draws.one_of(self.NAMES), draws.one_of(self.NAMES)
        sheets = dict(model.state())
        if kind < 2:
            sheet = draws.one_of((ONE, OTHER, THIRD, plain(1, 2), (2, 1, SPOTS[5:7])))
            self.assertIs(folio.lay(name, sheet), name in sheets)
            model.step("lay", dict(sheets, **{name: sheet}))
        elif kind == 2:
            if name in sheets:
                self.assertEqual(folio.take_off(name), sheets.pop(name))
                model.step("take", sheets)
            else:
                self.refused(NoName, folio, folio.take_off, name)
        elif kind == 3:
            self.one_blend(folio, model, draws.one_of(MANNERS), name, other)
        elif kind == 4 and model.now < len(model.words):
            self.assertEqual(folio.forth(), model.words[model.now])
            model.now += 1
        elif kind > 4 and model.now > 0:
            self.assertEqual(folio.back(), model.words[model.now - 1])
            model.now -= 1
        else:
            self.refused(NoDeed, folio, folio.forth if kind == 4 else folio.back)

    def one_blend(self, folio, model, manner, above, below):
        sheets = dict(model.state())
        if above not in sheets or below not in sheets:
            self.refused(NoName, folio, folio.blend, manner, above, below)
        elif sheets[above][:2] != sheets[below][:2]:
            self.refused(NoMerge, folio, folio.blend, manner, above, below)
        else:
            sheet = blended_sheets(manner, sheets[above], sheets[below])
            self.assertEqual(folio.blend(manner, above, below), sheet)
            model.step("blend", dict(sheets, **{below: sheet}))

    def test_step_by_step(self):
        draws = Draws(81)
        for turn in range(25):
            pairs = [(Folio(), Model())]
            for step in range(60):
                folio, model = draws.one_of(pairs)
                self.one_turn(draws, folio, model)
                if draws.below(20) == 0:
                    pairs.append((folio.twin(), model.twin()))
                for folio, model in pairs:
                    self.asked(folio, model.state(), model.counts())


if __name__ == "__main__":
    unittest.main()
