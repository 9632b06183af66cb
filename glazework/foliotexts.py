"""Folios as texts: a line for each name, and back."""

from glazework.errors import NoText
from glazework.folios import Folio
from glazework.pictures import is_name
from glazework.reading import Words, read_sheet
from glazework.sheets import is_sheet
from glazework.writing import words_of_sheet


def line_of(name, sheet):
    return " ".join([name] + words_of_sheet(sheet)) + "\n"


def folio_text(folio):
    return "".join([line_of(name, folio.fetch(name)) for name in folio.names()])


def read_line(folio, line):
    words = Words(line)
    name = words.take_word()
    sheet = read_sheet(words)
    if not is_name(name) or not is_sheet(sheet):
        raise NoText("a line has no name, or no sheet")
    folio.set_sheet(name, sheet)


def read_folio(text):
    folio = Folio()
    # Behind the last line feed nothing stands; if something does, it is missing in what is written below.
    for line in text.split("\n")[:-1]:
        read_line(folio, line)
    if folio_text(folio) != text:
        raise NoText("the text is the writing of no folio")
    return folio
