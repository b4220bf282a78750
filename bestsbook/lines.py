"""Lines: sheets written and read, and the deeds of a sheet told to a book."""

from bestsbook.book import check_book
from bestsbook.deeds import Deed
from bestsbook.errors import Clash, Full, NoDay, NoDeed, NoEvent, NoSheet, NoText, Unborn, Unknown
from bestsbook.sheets import MOST_DEEDS, Sheet

NO_DEEDS = "none"
WORDS_OF_DEED = 7
FIGURES = "0123456789"
MOST_FIGURES = 7


def writes_number(word):
    """Tell whether a word writes a number."""
    figures = word.removeprefix("-")
    # isdigit would take figures beyond 0 to 9 as well.
    if not 1 <= len(figures) <= MOST_FIGURES or not all([sign in FIGURES for sign in figures]):
        return False
    return figures[0] != "0" or word == "0"


def deed_of(line):
    """Tell the deed that a line writes, None where it writes none."""
    words = line.split(" ")
    if len(words) != WORDS_OF_DEED or not all([writes_number(word) for word in words[2:6]]):
        return None
    name, event, mark, day, hour, wind, course = words
    try:
        return Deed(name, event, int(mark), int(day), int(hour), int(wind), course)
    except NoDeed:
        return None


def check_sheet(thing):
    """Refuse what is no sheet."""
    if not isinstance(thing, Sheet):
        raise NoSheet("what is handed in is a sheet")


def sheet_text(sheet):
    """Tell the text that writes a sheet."""
    check_sheet(sheet)
    if len(sheet) == 0:
        return NO_DEEDS
    return str(sheet)


def read_sheet(text):
    """Tell the sheet that a text writes."""
    if not isinstance(text, str):
        raise NoText(-1)
    if text == NO_DEEDS:
        return Sheet()
    deeds = []
    for number, line in enumerate(text.split("\n")):
        deed = deed_of(line)
        if deed is None or number == MOST_DEEDS:
            raise NoText(number)
        deeds.append(deed)
    return Sheet(deeds)


def told_all(book, sheet, known=None):
    """Tell a book all deeds of a sheet; tell for each its number, or the name of the class that refuses it."""
    check_book(book)
    check_sheet(sheet)
    return [what_becomes(book, deed, known) for deed in sheet.all_deeds()]


def what_becomes(book, deed, known):
    """Tell a book a deed; tell its number, or the name of the class that refuses it."""
    try:
        return book.tell(deed, known)
    except NoDay:
        return "NoDay"
    except Unknown:
        return "Unknown"
    except NoEvent:
        return "NoEvent"
    except Unborn:
        return "Unborn"
    except Clash:
        return "Clash"
    except Full:
        return "Full"
