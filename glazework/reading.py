"""Pictures read from texts.

The reading of words is generous: it takes some that are never written. What
was read is therefore written once more, and only where that is the text
itself, the text is taken.
"""

from glazework.errors import NoText
from glazework.nodes import is_group, is_layer
from glazework.pictures import DEEPEST, is_picture
from glazework.writing import written

FIGURES = "0123456789"
MOST_FIGURES = 400


class Words:
    def __init__(self, text):
        self.words = text.split(" ")
        self.words_taken = 0

    def is_at_end(self):
        return self.words_taken == len(self.words)

    def word_ahead(self):
        if self.is_at_end():
            raise NoText("a word is missing at the end")
        return self.words[self.words_taken]

    def take_word(self):
        word = self.word_ahead()
        self.words_taken = self.words_taken + 1
        return word


def read_number(word):
    if not 1 <= len(word) <= MOST_FIGURES or not all([sign in FIGURES for sign in word]):
        raise NoText("a word is no number that is read")
    return int(word)


def read_offset(word):
    if word.startswith("-"):
        return -read_number(word[1:])
    return read_number(word)


def read_share(word):
    parts = word.partition("/")
    under = read_number(parts[2]) if parts[1] == "/" else 1
    return (read_number(parts[0]), under)


def read_spot(word):
    return tuple([read_share(part) for part in word.split(":")])


def read_mask(word):
    if word == ".":
        return None
    return tuple([read_share(part) for part in word.split(",")])


def read_size(word):
    parts = word.partition("x")
    return (read_number(parts[0]), read_number(parts[2]))


def read_sheet(words):
    size = read_size(words.take_word())
    spots = [read_spot(words.take_word()) for number in range(size[0] * size[1])]
    return size + (tuple(spots),)


def read_layer_alone(words):
    left = read_offset(words.take_word())
    top = read_offset(words.take_word())
    mask = read_mask(words.take_word())
    return (left, top, mask, read_sheet(words))


def read_inner_nodes(words, deepest):
    # Asked here already: a text of many brackets would go deeper than calls may.
    if deepest == 0 or words.take_word() != "[":
        raise NoText("a group stands too deep, or has no bracket")
    nodes = read_nodes(words, deepest - 1)
    # Nodes end with this bracket or with the text, and at its end there is no word to take.
    words.take_word()
    return nodes


def read_node(words, deepest):
    word = words.take_word()
    name = words.take_word()
    manner = words.take_word()
    strength = read_share(words.take_word())
    node = (word, name, manner, strength, words.take_word() == "+")
    if is_layer(node):
        return node + read_layer_alone(words)
    if is_group(node):
        return node + (read_inner_nodes(words, deepest),)
    return node


def read_nodes(words, deepest):
    nodes = []
    while not words.is_at_end() and words.word_ahead() != "]":
        nodes.append(read_node(words, deepest))
    return tuple(nodes)


def read(text):
    words = Words(text)
    size = read_size(words.take_word())
    picture = size + (read_nodes(words, DEEPEST),)
    if not is_picture(picture) or written(picture) != text:
        raise NoText("the text is the writing of no picture")
    return picture
