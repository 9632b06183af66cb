"""10.1, 0.2 (g), and 0.3 as far as it speaks of texts."""

import copy
import unittest

from bydocument import is_sound_picture, written_by_document
from glazework.errors import NoText
from glazework.pictures import is_picture
from glazework.reading import read
from glazework.writing import written
from samples import (
    BROAD, CLEAR, HALF, MANNERS, ONE, PALE, PICTURES, RED, RULES, SPOTS, STRENGTHS, WHITE, ZERO,
    Draws, group, layer, picture, plain, tone,
)

EXAMPLE = "2x1 layer a over 1/2 + 0 0 . 1x1 1:1/3:0:1 group b plus 1 - [ tone c grey 1 + ]"
EXAMPLE_PICTURE = picture(2, 1, (
    layer("a", (1, 1, ((ONE, (1, 3), ZERO, ONE),)), "over", HALF),
    group("b", (tone("c", "grey"),), "plus", ONE, False),
))

NODES = (
    layer("a"),
    layer("abcdef", BROAD, "cut", (1, 3), False, -9, 9, (ONE, HALF, ZERO, (1, 3), ONE, ONE)),
    layer("a", plain(1, 1, WHITE), "plus", ZERO, True, 9, -9, (HALF,)),
    layer("a", plain(8, 8, CLEAR)),
    layer("a", (1, 8, SPOTS[2:10])),
    group("a"),
    group("a", (), "atop", HALF, False),
    group("a", (layer("b"), tone("c"), group("d", (group("e", (layer("f"), tone("g"))),)), layer("h"))),
    tone("a"),
    tone("a", "round", (5, 7), False),
)

ALL_SIGNS = [chr(number) for number in range(32, 127)]


class TextCase(unittest.TestCase):
    def refused(self, text):
        with self.assertRaises(NoText) as caught:
            read(text)
        self.assertIs(type(caught.exception), NoText, text)

    def goes(self, one, text):
        before = copy.deepcopy(one)
        self.assertEqual(written(one), text)
        self.assertEqual(read(text), one)
        self.assertEqual(one, before)


class Written(TextCase):
    def test_the_example(self):
        self.goes(EXAMPLE_PICTURE, EXAMPLE)

    def test_by_hand(self):
        self.goes(picture(3, 2), "3x2")
        self.goes(picture(8, 8), "8x8")
        self.goes(picture(1, 1, (group("g"),)), "1x1 group g over 1 + [ ]")
        self.goes(
            picture(1, 1, (group("g", (group("h", (), "cut", ZERO, False), tone("t")), "screen", (2, 3)), tone("u"))),
            "1x1 group g screen 2/3 + [ group h cut 0 - [ ] tone t turn 1 + ] tone u turn 1 +",
        )
        self.goes(
            picture(1, 2, (layer("ab", (2, 1, (CLEAR, PALE)), "atop", ZERO, False, -9, 4, (ONE, (1, 3))),)),
            "1x2 layer ab atop 0 - -9 4 1,1/3 2x1 0:0:0:0 1/2:1/2:0:1/4",
        )

    def test_each_kind_of_node(self):
        for node in NODES:
            one = picture(5, 7, (node,))
            self.goes(one, written_by_document(one))

    def test_each_manner_and_rule(self):
        for manner in MANNERS:
            self.goes(picture(1, 1, (group("a", (), manner),)), "1x1 group a " + manner + " 1 + [ ]")
        for rule in RULES:
            self.goes(picture(1, 1, (tone("a", rule),)), "1x1 tone a " + rule + " 1 +")

    def test_shares(self):
        for strength in STRENGTHS:
            one = picture(1, 1, (tone("a", "turn", strength),))
            self.goes(one, written_by_document(one))

    def test_all_pictures(self):
        texts = {}
        for one in PICTURES:
            self.goes(one, written_by_document(one))
            texts[written(one)] = one
        self.assertEqual(len(texts), len(set(PICTURES)))

    def test_names_that_are_words(self):
        for name in ("layer", "group", "tone", "over", "x"):
            one = picture(1, 1, (tone(name), group("g", (layer("h"),))))
            self.goes(one, written_by_document(one))

    def test_long_numbers_are_written(self):
        for figures in (59, 60, 61, 119, 120, 121, 400, 401, 4300, 4301, 9000):
            for digit in "19":
                under = 10 ** figures - 1 if digit == "9" else 10 ** (figures - 1) + 1
                wanted = "9" * figures if digit == "9" else "1" + "0" * (figures - 2) + "1"
                one = picture(1, 1, (tone("a", "turn", (1, under)),))
                self.assertEqual(written(one), "1x1 tone a turn 1/" + wanted + " +")

    def test_zeros_within_long_numbers(self):
        under = 10 ** 250 + 3 * 10 ** 125 + 7
        wanted = "1x1 tone a turn 1/" + "1" + "0" * 124 + "3" + "0" * 124 + "7 +"
        self.goes(picture(1, 1, (tone("a", "turn", (1, under)),)), wanted)


class Read(TextCase):
    def test_what_is_read_is_a_picture_of_tuples(self):
        for one in PICTURES + (EXAMPLE_PICTURE,):
            self.assertTrue(is_sound_picture(read(written(one))))
            self.assertIs(is_picture(read(written(one))), True)

    def test_no_words(self):
        for text in ("", " ", "  ", "\n"):
            self.refused(text)

    def test_blanks(self):
        words = EXAMPLE.split(" ")
        for number in range(1, len(words)):
            self.refused(" ".join(words[:number]) + "  " + " ".join(words[number:]))
            self.refused(" ".join(words[:number]) + "\n" + " ".join(words[number:]))
            self.refused(" ".join(words[:number]) + "\t" + " ".join(words[number:]))
            self.refused(" ".join(words[:number]) + "\u00a0" + " ".join(words[number:]))
        for text in (" " + EXAMPLE, EXAMPLE + " ", EXAMPLE + "\n", "\n" + EXAMPLE, "3x2 ", " 3x2", "3x2\n"):
            self.refused(text)

    def test_a_word_too_few_or_too_many(self):
        words = EXAMPLE.split(" ")
        for number in range(len(words)):
            self.refused(" ".join(words[:number] + words[number + 1:]))
            self.refused(" ".join(words[:number + 1] + words[number:]))
            self.refused(" ".join(words[:number] + ["1"] + words[number:]))

    def test_beginnings(self):
        words = EXAMPLE.split(" ")
        nodes = EXAMPLE_PICTURE[2]
        whole = {1: picture(2, 1), 11: picture(2, 1, nodes[:1]), len(words): EXAMPLE_PICTURE}
        for number in range(1, len(words) + 1):
            if number in whole:
                self.assertEqual(read(" ".join(words[:number])), whole[number])
            else:
                self.refused(" ".join(words[:number]))

    def test_each_sign_changed(self):
        """Whatever is read writes back as the text it was read from."""
        read_texts = 0
        for number in range(len(EXAMPLE)):
            for text in self.near(number):
                try:
                    one = read(text)
                except NoText:
                    continue
                read_texts += 1
                self.assertTrue(is_sound_picture(one), text)
                self.assertEqual(written_by_document(one), text)
        self.assertGreater(read_texts, 50)

    def near(self, number):
        for sign in ALL_SIGNS + ["", "\n", "\u0663", "\u00b2", "\uff11"]:
            yield EXAMPLE[:number] + sign + EXAMPLE[number + 1:]
            yield EXAMPLE[:number] + sign + EXAMPLE[number:]

    def test_each_word_changed(self):
        words = EXAMPLE.split(" ")
        for number in range(len(words)):
            for word in words + ["", "0", "1", "2", "-1", "1/2", "2/4", "a", "x", "0:0:0:0", "tone", "[", "]", "."]:
                text = " ".join(words[:number] + [word] + words[number + 1:])
                try:
                    one = read(text)
                except NoText:
                    continue
                self.assertTrue(is_sound_picture(one), text)
                self.assertEqual(written_by_document(one), text)


class Shares(TextCase):
    def text(self, share):
        return "1x1 tone a turn " + share + " +"

    def test_shares_that_are_read(self):
        for word, share in (("0", ZERO), ("1", ONE), ("1/2", HALF), ("10/11", (10, 11)), ("100/103", (100, 103))):
            self.goes(picture(1, 1, (tone("a", "turn", share),)), self.text(word))

    def test_shares_that_are_none(self):
        for word in (
            "2/4", "0/1", "1/1", "0/2", "2/2", "1/0", "0/0", "3/2", "2", "10", "00", "01", "1/02", "01/2", "+1", "-0",
            "-1", "-1/2", "1/-2", "+1/2", "1/+2", "1/2/3", "1/", "/2", "/", "", "1 /2", "1//2", "1.0", ".5", "1e0",
            "0x1", "1_0/11", "half", "1:2", "1,2", "\u0661/\u0662", "\uff11/\uff12", "\u00b9/\u00b2", "1/\u0662",
            "\u00bd", ".",
        ):
            self.refused(self.text(word))

    def test_in_all_places(self):
        texts = (
            "1x1 layer a over {} + 0 0 . 1x1 1:1:1:1", "1x1 layer a over 1 + 0 0 {} 1x1 1:1:1:1",
            "1x1 layer a over 1 + 0 0 {},1 2x1 1:1:1:1 0:0:0:0", "1x1 layer a over 1 + 0 0 1,{} 2x1 1:1:1:1 0:0:0:0",
            "1x1 layer a over 1 + 0 0 . 1x1 1:{}:1:1", "1x1 layer a over 1 + 0 0 . 1x1 1:1:{}:1",
            "1x1 layer a over 1 + 0 0 . 1x1 1:1:1:{}", "1x1 layer a over 1 + 0 0 . 1x1 {}:0:0:0",
            "1x1 group a over {} + [ ]", "1x1 tone a turn {} +",
        )
        for text in texts:
            for word in ("1/3", "1", "0", "1/" + "9" * 400):
                self.assertEqual(written(read(text.format(word))), text.format(word))
            for word in ("2/6", "1/1", "0/1", "01", "1/", "-0", "4/3", "", "1/" + "9" * 401, "/", "+0"):
                self.refused(text.format(word))

    def test_figures(self):
        for figures in (1, 2, 60, 61, 399, 400):
            under = int("9" * figures)
            one = picture(1, 1, (tone("a", "turn", (1, under)),))
            self.goes(one, self.text("1/" + "9" * figures))
            one = picture(1, 1, (layer("a", (1, 1, (((under - 1, under), ZERO, ZERO, ZERO),))),))
            self.goes(one, written_by_document(one))

    def test_too_many_figures(self):
        for figures in (401, 402, 1000, 4300, 4301, 10000):
            for digits in ("9" * figures, "1" + "0" * (figures - 1), "0" * (figures - 1) + "2"):
                self.refused(self.text("1/" + digits))
                self.refused(self.text(digits))
                self.refused(self.text(digits + "/" + digits))
                self.refused(self.text(digits + "/2"))
        least = 10 ** 400
        self.refused(written(picture(1, 1, (tone("a", "turn", (1, least)),))))
        self.refused(written(picture(1, 1, (tone("a", "turn", (least, least + 1)),))))
        self.goes(picture(1, 1, (tone("a", "turn", (least - 2, least - 1)),)), self.text("9" * 399 + "8/" + "9" * 400))


class Parts(TextCase):
    LAYER = "1x1 layer a over 1 + {} {} {} {} {}"

    def layer_text(self, left="0", top="0", mask=".", size="1x1", spots="0:0:0:0"):
        return self.LAYER.format(left, top, mask, size, spots)

    def test_sizes(self):
        for size in ("1x1", "8x8", "1x8", "8x1", "3x2"):
            self.assertEqual(written(read(size)), size)
        for size in (
            "0x1", "1x0", "9x1", "1x9", "8x9", "10x1", "01x1", "1x01", "+1x1", "1x+1", "-1x1", "1x-1", "1x", "x1", "x",
            "1", "1x1x1", "1X1", "1*1", "1 x1", "1/2x1", "\u0661x1", "1xx1", "xx", "2", "9" * 400 + "x1",
            "1x" + "9" * 400, "9" * 400 + "x" + "9" * 400, "1x" + "1" * 401, "1x" + "1" * 5000, "0x" + "9" * 400,
        ):
            self.refused(size)
            self.refused(size + " tone a turn 1 +")
            self.refused(self.layer_text(size=size))

    def test_sizes_that_do_not_fit_the_spots(self):
        clear = "0:0:0:0"
        for wide, high in ((1, 1), (2, 1), (1, 2), (2, 2), (3, 2), (8, 8)):
            size = "{}x{}".format(wide, high)
            for many in range(1, 9):
                text = self.layer_text(size=size, spots=" ".join([clear] * many))
                if many == wide * high:
                    self.assertEqual(read(text), picture(1, 1, (layer("a", plain(wide, high, CLEAR)),)))
                else:
                    self.refused(text)

    def test_offsets(self):
        for number in range(-9, 10):
            one = picture(1, 1, (layer("a", plain(1, 1, CLEAR), left=number, top=-number),))
            self.goes(one, self.layer_text(str(number), str(-number)))
        for word in (
            "10", "-10", "99", "+1", "+0", "-0", "00", "01", "-01", "--1", "-", "", "1/2", "1.", ".", "a", "- 1", "0x1",
            "1_0", "\u0661", "-\u0661", "\u22121", "1" * 401, "0" * 400,
        ):
            self.refused(self.layer_text(left=word))
            self.refused(self.layer_text(top=word))

    def test_masks(self):
        sheet = "0:0:0:0 1:1:1:1"
        for word, mask in ((".", None), ("0,1", (ZERO, ONE)), ("1/2,2/3", (HALF, (2, 3)))):
            one = picture(1, 1, (layer("a", (2, 1, (CLEAR, WHITE)), mask=mask),))
            self.goes(one, self.layer_text(mask=word, size="2x1", spots=sheet))
        for word in (
            "1", "1,1,1", ",", "1,", ",1", "1,,1", "..", ".,.", ".,1", "1;1", "1:1", "1, 1", "", "-", "None", "2,1",
        ):
            self.refused(self.layer_text(mask=word, size="2x1", spots=sheet))

    def test_spots(self):
        for spot in SPOTS:
            one = picture(1, 1, (layer("a", plain(1, 1, spot)),))
            self.goes(one, written_by_document(one))
        for word in (
            "0:0:0", "0:0:0:0:0", "0", "", ":::", "1/2:1:0:0", "0:0:0:1", "1/2:0:2/3:0", "1:1:1:", ":1:1:1", "1:1::1:1",
            "1,1,1,1", "1:1:1:1:", ":1:1:1:1", "1;1;1;1", "2:0:0:0", "1:1:1:2", ".", "(1:1:1:1)",
        ):
            self.refused(self.layer_text(spots=word))

    def test_shown(self):
        for word in ("", "1", "0", "++", "--", "True", "shown", "[", "*", "t"):
            self.refused("1x1 tone a turn 1 " + word)
            self.refused("1x1 group a over 1 " + word + " [ ]")

    def test_words_of_nodes(self):
        for word in ("", "Tone", "tones", "ton", "tone,", "+", "layer", "group", "]", "[", "1x1"):
            self.refused("1x1 " + word + " a turn 1 +")

    def test_manners_and_rules(self):
        for word in ("", "Turn", "over", "cut", "tur", "turns", "[", "."):
            self.refused("1x1 tone a " + word + " 1 +")
        for word in ("", "Over", "turn", "grey", "ove", "overs", "[", "."):
            self.refused("1x1 group a " + word + " 1 + [ ]")
            self.refused("1x1 layer a " + word + " 1 + 0 0 . 1x1 0:0:0:0")

    def test_names(self):
        for name in ("a", "z", "abcdef", "layer"):
            self.goes(picture(1, 1, (tone(name),)), "1x1 tone " + name + " turn 1 +")
        for name in ("", "abcdefg", "A", "a1", "a-b", "1", "+", "[", "]", "\u00e4", "a\n", "a\t", "~", "."):
            self.refused("1x1 tone " + name + " turn 1 +")

    def test_a_name_twice(self):
        self.refused("1x1 tone a turn 1 + tone a grey 1 +")
        self.refused("1x1 tone a turn 1 + group g over 1 + [ tone a grey 1 + ]")
        self.refused("1x1 group a over 1 + [ tone a turn 1 + ]")
        self.refused("1x1 group g over 1 + [ tone b turn 1 + ] group h over 1 + [ tone b turn 1 + ]")

    def test_brackets(self):
        for text in (
            "1x1 [", "1x1 ]", "1x1 [ ]", "1x1 group a over 1 +", "1x1 group a over 1 + [", "1x1 group a over 1 + ]",
            "1x1 group a over 1 + [ ] ]", "1x1 group a over 1 + [ [ ]", "1x1 group a over 1 + [ [ ] ]", "1x1 ] [",
            "1x1 group a over 1 + ] [", "1x1 group a over 1 + ( )", "1x1 group a over 1 + []",
            "1x1 group a over 1 + [ ],",
            "1x1 group a over 1 + [ tone t turn 1 +", "1x1 group a over 1 + tone t turn 1 + ]",
            "1x1 group a over 1 + [ group b over 1 + [ ]", "1x1 tone t turn 1 + [ ]", "1x1 tone t turn 1 + ]",
            "1x1 layer a over 1 + 0 0 . 1x1 0:0:0:0 [ ]", "1x1 layer a over 1 + 0 0 . 1x1 0:0:0:0 ]",
        ):
            self.refused(text)

    def nested_groups(self, many):
        names = ["g" + "abcdefghij"[number // 10 % 10] + "abcdefghij"[number % 10] for number in range(many)]
        return "1x1 " + " ".join("group " + name + " over 1 + [" for name in names) + " ]" * many

    def test_groups_within_one_another(self):
        for many in (1, 2, 3):
            self.assertEqual(written(read(self.nested_groups(many))), self.nested_groups(many))
        for many in (4, 5, 20, 100):
            self.refused(self.nested_groups(many))

    def test_very_many_brackets(self):
        self.refused("1x1 " + "group a over 1 + [ " * 20000)
        self.refused("1x1 " + " ".join(["group a over 1 + ["] * 20000) + " ]" * 20000)
        self.refused("1x1" + " [" * 20000)
        self.refused("1x1" + " ]" * 20000)

    def test_other_texts(self):
        for text in ("none", "1x1,", "(1, 1, ())", EXAMPLE.upper(), EXAMPLE[1:], EXAMPLE + EXAMPLE):
            self.refused(text)
        self.refused(EXAMPLE + " " + EXAMPLE)


class AllPictures(TextCase):
    def test_texts_near_those_that_are_written(self):
        """A word left out, said twice, or in another's place: it is refused, or writes back as itself."""
        draws = Draws(51)
        refusals = 0
        for one in PICTURES:
            words = written(one).split(" ")
            for turn in range(20):
                number, other = draws.below(len(words)), draws.below(len(words))
                near = list(words)
                kind = draws.below(3)
                if kind == 0:
                    near.pop(number)
                elif kind == 1:
                    near.insert(other, words[number])
                else:
                    near[number], near[other] = near[other], near[number]
                text = " ".join(near)
                try:
                    told = read(text)
                except NoText:
                    refusals += 1
                    continue
                self.assertTrue(is_sound_picture(told), text)
                self.assertEqual(written_by_document(told), text)
        self.assertGreater(refusals, 500)

    def test_huge_spots(self):
        one = picture(1, 1, (layer("a", plain(2, 2, SPOTS[10])), layer("b", plain(1, 1, RED))))
        self.goes(one, written_by_document(one))


if __name__ == "__main__":
    unittest.main()
