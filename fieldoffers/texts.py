"""Ways, rows and lists of words as texts, and read from texts."""

from fieldoffers.errors import BadText
from fieldoffers.keys import check_row, is_row
from fieldoffers.ways import check_way, is_way
from fieldoffers.words import check_list, is_list

NUMBERS = {"0": 0, "1": 1, "2": 2}


def format_way(way):
    """Return the items of a way, separated by single spaces."""
    check_way(way)
    return " ".join([str(item) for item in way])


def format_row(row):
    """Return the keys of a row, separated by single commas."""
    check_row(row)
    return ",".join(row)


def format_list(words):
    """Return the words of a list, separated by single blanks."""
    check_list(words)
    return " ".join(words)


def check_string(text):
    """Raise BadText if a value is not a string."""
    if not isinstance(text, str):
        raise BadText("only a string is parsed")


def parse_way(text):
    """Return the way that a text tells."""
    check_string(text)
    way = tuple([NUMBERS.get(item, item) for item in text.split(" ")])
    if not is_way(way):
        raise BadText("this text tells no way")
    return way


def parse_row(text):
    """Return the row that a text tells."""
    check_string(text)
    if text == "":
        return []
    row = text.split(",")
    if not is_row(row):
        raise BadText("this text tells no row")
    return row


def parse_list(text):
    """Return the list of words that a text tells."""
    check_string(text)
    words = text.split(" ")
    if not is_list(words):
        raise BadText("this text tells no list of words")
    return words
