"""What is put in for a text that is typed letter by letter."""

from fieldoffers.errors import BadKeys, NotFound
from fieldoffers.states import first_state, walk
from fieldoffers.ways import check_way
from fieldoffers.words import all_texts, check_list, check_wanted

ENDING_KEYS = ("blank", "end")


def check_ending_key(key):
    """Raise BadKeys if a value is neither "blank" nor "end"."""
    if not isinstance(key, str) or key not in ENDING_KEYS:
        raise BadKeys("the keys that put a text in are blank and end")


def text_put(way, words, wanted, key):
    """Return the text that is put in for a wanted one."""
    text, begun, quiet, order, put = walk(way, first_state(words), [*wanted, key])[-1]
    return put


def typed(way, words, wanted, key):
    """Return the text that is put in by the letters of a wanted text and then a key."""
    check_way(way)
    check_list(words)
    check_wanted(wanted)
    check_ending_key(key)
    return text_put(way, words, wanted, key)


def wrongs(way, words, key):
    """Return the list of the texts, in order, for which another one is put in."""
    check_way(way)
    check_list(words)
    check_ending_key(key)
    return [text for text in all_texts() if text_put(way, words, text, key) != text]


def first_wrong(way, words, key):
    """Return the first text for which another one is put in."""
    found = wrongs(way, words, key)
    if len(found) == 0:
        raise NotFound("each text is put in as it is typed")
    return found[0]
