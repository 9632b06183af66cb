"""14.1, 0.2 (g), and 0.3 as far as it speaks of folios as texts."""

import unittest

from bydocument import is_sound_sheet, sheet_by_document
from glazework.errors import NoDeed, NoText
from glazework.folios import Folio
from glazework.foliotexts import folio_text, read_folio
from samples import BLACK, BROAD, CLEAR, PALE, RED, SPOTS, WHITE, ZERO, Draws, plain

SHEETS = (
    plain(1, 1, CLEAR), plain(1, 1, WHITE), (2, 1, (RED, PALE)), (1, 2, (RED, PALE)), BROAD, plain(8, 8, BLACK),
    (1, 8, SPOTS[3:]), (2, 2, SPOTS[7:]),
)
TWO = "a 2x1 1:1:0:0 1/2:1/2:0:1/4\nb 1x1 0:0:0:0\n"
CLEAR_WORD = "0:0:0:0"


def folio_of(sheets):
    folio = Folio()
    for name, sheet in sheets:
        folio.lay(name, sheet)
    return folio


def text_by_document(sheets):
    return "".join(" ".join([name] + sheet_by_document(sheet)) + "\n" for name, sheet in sorted(sheets))


def state_of(folio):
    return [(name, folio.fetch(name)) for name in folio.names()]


class FolioTextCase(unittest.TestCase):
    def refused(self, text):
        with self.assertRaises(NoText) as caught:
            read_folio(text)
        self.assertIs(type(caught.exception), NoText, text)

    def reads(self, text, sheets):
        folio = read_folio(text)
        self.assertIsInstance(folio, Folio)
        self.assertEqual(state_of(folio), sheets)
        self.assertTrue(all(is_sound_sheet(sheet) for name, sheet in sheets))
        self.assertEqual(folio.counts(), (0, 0))
        self.assertEqual(folio_text(folio), text)

    def goes(self, sheets, text):
        folio = folio_of(sheets)
        counts = folio.counts()
        self.assertEqual(folio_text(folio), text)
        self.assertEqual((state_of(folio), folio.counts()), (sorted(sheets), counts))
        self.reads(text, sorted(sheets))

    def near(self, text):
        """Refused, or the text of what is read."""
        try:
            folio = read_folio(text)
        except NoText:
            return False
        self.assertEqual(text_by_document(state_of(folio)), text)
        self.assertTrue(all(is_sound_sheet(sheet) for name, sheet in state_of(folio)))
        return True


class Written(FolioTextCase):
    def test_no_names(self):
        self.goes([], "")

    def test_one_name(self):
        self.goes([("a", plain(1, 1, CLEAR))], "a 1x1 0:0:0:0\n")
        self.goes([("abcdef", (1, 2, (RED, PALE)))], "abcdef 1x2 1:1:0:0 1/2:1/2:0:1/4\n")
        for sheet in SHEETS:
            self.goes([("z", sheet)], text_by_document([("z", sheet)]))

    def test_several_names(self):
        self.goes([("a", (2, 1, (RED, PALE))), ("b", plain(1, 1, CLEAR))], TWO)
        self.goes([("b", plain(1, 1, CLEAR)), ("a", (2, 1, (RED, PALE)))], TWO)
        names = ["b", "zz", "a", "ab", "z", "abc", "aa", "m"]
        sheets = list(zip(names, SHEETS))
        self.goes(sheets, text_by_document(sheets))

    def test_names_rise_line_by_line(self):
        sheets = [(name, plain(1, 1, CLEAR)) for name in ("b", "ab", "a", "ba", "aab")]
        lines = folio_text(folio_of(sheets)).split("\n")
        self.assertEqual([line.split(" ")[0] for line in lines], ["a", "aab", "ab", "b", "ba", ""])

    def test_steps_are_not_written(self):
        folio = folio_of([("b", plain(1, 1, RED)), ("a", (2, 1, (RED, PALE))), ("c", BROAD), ("b", plain(1, 1, CLEAR))])
        folio.take_off("c")
        folio.lay("d", BROAD)
        folio.back()
        self.assertEqual(folio_text(folio), TWO)
        self.assertEqual(folio.counts(), (5, 1))

    def test_long_numbers_are_written(self):
        for figures in (400, 401, 4300, 4301, 6000):
            under = 10 ** figures - 1
            folio = folio_of([("a", plain(1, 1, ((1, under), ZERO, ZERO, ZERO)))])
            self.assertEqual(folio_text(folio), "a 1x1 1/" + "9" * figures + ":0:0:0\n")


class Read(FolioTextCase):
    def test_a_new_folio_each_time(self):
        one, other = read_folio(TWO), read_folio(TWO)
        one.take_off("a")
        self.assertEqual(other.names(), ["a", "b"])
        self.assertEqual(read_folio("").names(), [])
        read_folio("").lay("a", BROAD)
        self.assertEqual(read_folio("").names(), [])

    def test_without_steps(self):
        folio = read_folio(TWO)
        self.assertEqual(folio.counts(), (0, 0))
        for deed in (folio.back, folio.forth):
            with self.assertRaises(NoDeed):
                deed()
        self.assertIs(folio.lay("a", BROAD), True)
        self.assertEqual(folio.counts(), (1, 0))
        self.assertEqual(folio.back(), "lay")
        self.assertEqual(folio_text(folio), TWO)

    def test_line_feeds(self):
        for text in (
            TWO[:-1], TWO + "\n", "\n" + TWO, "\n", "\n\n", TWO.replace("\n", "\n\n"), TWO.replace("\n", "\r\n"),
            TWO.replace("\n", " "), TWO.replace("\n", "\r"), TWO.replace("\n", "\u2028"), TWO.replace("\n", " \n"),
            TWO.replace("\n", "\n "), TWO + " ", TWO + "c", TWO + "c 1x1 0:0:0:0", TWO.replace("\n", "\x0b"),
            TWO.replace("1x1 ", "1x1\n"), TWO.replace("a ", "a\n"), TWO.replace("1:1:0:0 ", "1:1:0:0\n"),
        ):
            self.refused(text)

    def test_blanks(self):
        for number, sign in enumerate(TWO):
            if sign == " ":
                self.refused(TWO[:number] + " " + TWO[number:])
                self.refused(TWO[:number] + "\t" + TWO[number + 1:])
                self.refused(TWO[:number] + "\u00a0" + TWO[number + 1:])
                self.refused(TWO[:number] + TWO[number + 1:])
        self.refused(" " + TWO)
        self.refused(" ")
        self.refused(" \n")

    def test_names_not_rising(self):
        line = " 1x1 0:0:0:0\n"
        for names in (("b", "a"), ("a", "a"), ("ab", "a"), ("a", "c", "b"), ("a", "b", "a"), ("z", "ab"), ("b", "aa")):
            self.refused("".join(name + line for name in names))
        for names in (("a", "aa"), ("a", "ab", "b"), ("az", "b"), ("zzzzzy", "zzzzzz")):
            self.assertEqual(read_folio("".join(name + line for name in names)).names(), list(names))

    def test_a_name_twice_with_other_sheets(self):
        self.refused("a 1x1 0:0:0:0\na 1x1 1:1:1:1\n")

    def test_names_that_are_none(self):
        for name in ("", "abcdefg", "A", "a1", "1", "a-b", "\u00e4", "~", ".", "1x1"):
            self.refused(name + " 1x1 0:0:0:0\n")
        self.refused("1x1 0:0:0:0\n")

    def test_sizes(self):
        for wide, high in ((1, 1), (2, 1), (1, 2), (2, 2), (8, 1), (8, 8)):
            for many in (0, 1, 2, 3, 4, 5, 7, 8, 9, 63, 64, 65):
                text = " ".join(["a", "{}x{}".format(wide, high)] + [CLEAR_WORD] * many) + "\n"
                if many == wide * high:
                    self.reads(text, [("a", plain(wide, high, CLEAR))])
                else:
                    self.refused(text)
        for size in (
            "0x1", "1x0", "0x0", "9x1", "1x9", "01x1", "1x01", "+1x1", "1x", "x1", "x", "", "1", "1X1", "1x1x1",
            "-1x-1", "\u0661x1", "1" * 401 + "x1", "9" * 400 + "x" + "9" * 400, "1x" + "1" * 5000,
        ):
            self.refused("a " + size + " 0:0:0:0\n")
            self.refused("a " + size + "\n")
        self.refused("a 9x1" + " 0:0:0:0" * 9 + "\n")
        self.refused("a 1x9" + " 0:0:0:0" * 9 + "\n")

    def test_spots_that_are_none(self):
        for word in (
            "0:0:0", "0:0:0:0:0", "0", "", ":::", "1/2:1:0:0", "0:0:0:1", "1:1:1:", ":1:1:1", "1,1,1,1", "2:0:0:0", ".",
            "2/4:0:0:0", "1/1:0:0:0", "0/1:0:0:0", "01:0:0:0", "1:+1:0:0", "1:-0:0:0", "1:-1:0:0", "1:1/02:0:0",
            "\u0661:0:0:0", "1:1/\u0662:0:0", "1:1/0:0:0", "1:/2:0:0", "1:1/:0:0",
        ):
            self.refused("a 1x1 " + word + "\n")
            self.refused("a 2x1 0:0:0:0 " + word + "\n")
            self.refused("a 1x1 0:0:0:0\nb 1x1 " + word + "\n")

    def test_figures(self):
        for figures in (1, 60, 399, 400):
            spot = ((1, 10 ** figures - 1), ZERO, ZERO, ZERO) if figures > 1 else ((1, 9), ZERO, ZERO, ZERO)
            self.reads("a 1x1 1/" + "9" * figures + ":0:0:0\n", [("a", plain(1, 1, spot))])
        for figures in (401, 402, 4300, 4301, 9000):
            self.refused("a 1x1 1/" + "9" * figures + ":0:0:0\n")
            self.refused("a 1x1 1:1/" + "9" * figures + ":0:0\n")
            self.refused("a 1x1 " + "9" * (figures - 1) + "8/" + "9" * figures + ":0:0:0\n")
            self.refused("a 1x1 1/" + "0" * (figures - 1) + "2:0:0:0\n")

    def test_pictures_are_no_folios(self):
        self.refused("2x1 tone a turn 1 +")
        self.refused("2x1 tone a turn 1 +\n")
        self.refused("2x1")
        self.refused("2x1\n")

    def test_lines_too_few_or_words_too_many(self):
        words = TWO.split(" ")
        for number in range(len(words)):
            self.refused(" ".join(words[:number] + words[number + 1:]))
            self.refused(" ".join(words[:number] + ["1"] + words[number:]))

    def test_each_sign_changed(self):
        signs = [chr(number) for number in range(32, 127)] + ["", "\n", "\r", "\u0663", "\u00b2"]
        many = 0
        for number in range(len(TWO) + 1):
            for sign in signs:
                many += self.near(TWO[:number] + sign + TWO[number + 1:])
                many += self.near(TWO[:number] + sign + TWO[number:])
        self.assertGreater(many, 50)


class AllFolios(FolioTextCase):
    def test_drawn_folios(self):
        draws = Draws(91)
        for turn in range(80):
            names = [name for name in ("a", "ab", "b", "c", "layer", "x", "zzzzzz") if draws.below(2)]
            sheets = [(name, draws.sheet(draws.below(4) + 1, draws.below(4) + 1)) for name in names]
            self.goes(sheets[::-1], text_by_document(sheets))

    def test_texts_near_those_that_are_written(self):
        draws = Draws(92)
        refusals = 0
        for turn in range(300):
            sheets = [(name, draws.sheet(draws.below(2) + 1, draws.below(2) + 1)) for name in ("a", "b", "c")]
            text = text_by_document(sheets)
            number, other = sorted((draws.below(len(text)), draws.below(len(text))))
            refusals += not self.near(text[:number] + text[other:])
            refusals += not self.near(text[:other] + text[number:])
            lines = text.split("\n")
            refusals += not self.near("\n".join([lines[1], lines[0], lines[2], ""]))
        self.assertGreater(refusals, 500)


if __name__ == "__main__":
    unittest.main()
