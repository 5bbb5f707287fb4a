"""The states of a field: what it offers, what a key does, what is seen.

The functions that take a way, a list of words or a key do not check them:
the functions of the interface do, before they call these.
"""

from fieldoffers.errors import BadNumber, BadViews
from fieldoffers.ways import is_integer_among
from fieldoffers.words import LETTERS, TEXT_LETTERS, is_text

SIGHTS = (0, 1)
QUIETS = (0, 1)


def first_state(words):
    """Return the state ahead of all keys."""
    return ("", "", 0, tuple(words), "")


def fitting_words(text, order):
    """Return the list of the words that begin with a text and are longer."""
    return [word for word in order if word.startswith(text) and len(word) > len(text)]


def common_beginning(texts):
    """Return the longest beginning that all of some texts have."""
    common = texts[0]
    for text in texts:
        while not text.startswith(common):
            common = common[:-1]
    return common


def chosen_of(choice, texts):
    """Return what a choice makes of the rests of the fitting words, or of the words whole."""
    if choice == "common":
        return common_beginning(texts)
    if choice == "short":
        # Of several shortest ones, min returns the first.
        return min(texts, key=len)
    return texts[0]


def open_offer(way, text, order):
    """Return the offer behind a text if nothing keeps it quiet, "" if there is none."""
    choice, since, accept, again, back, learn = way
    if len(text) < since:
        return ""
    rests = [word[len(text):] for word in fitting_words(text, order)]
    if len(rests) == 0:
        return ""
    return chosen_of(choice, rests)


def offer_of(way, state):
    """Return the offer in a state, "" if there is none."""
    text, begun, quiet, order, put = state
    if quiet == 1:
        return ""
    return open_offer(way, text, order)


def press_letter(state, letter):
    """Return the state behind a letter."""
    text, begun, quiet, order, put = state
    if len(text) == TEXT_LETTERS:
        return (text, begun, quiet, order, "")
    return (text + letter, "", 0, order, "")


def word_behind(text, words):
    """Return the word behind a text, the first one if there is none behind it."""
    if text not in words or text == words[-1]:
        return words[0]
    return words[words.index(text) + 1]


def press_tab(way, state, offer):
    """Return the state behind the key tab."""
    choice, since, accept, again, back, learn = way
    text, begun, quiet, order, put = state
    if offer != "":
        return (text + offer, text, 1, order, "")
    if again == "next" and begun != "":
        text = word_behind(text, fitting_words(begun, order))
    return (text, begun, quiet, order, "")


def with_first(word, order):
    """Return an order in which one of its words has gone to the front."""
    others = [other for other in order if other != word]
    return (word, *others)


def press_putting(way, state, offer, key):
    """Return the state behind blank or end, the keys that put a text in."""
    choice, since, accept, again, back, learn = way
    text, begun, quiet, order, put = state
    if accept == "always" or (accept == "blank" and key == "blank"):
        text = text + offer
    if learn == 1 and text in order:
        order = with_first(text, order)
    return ("", "", 0, order, text)


def press_back(way, state, offer):
    """Return the state behind the key back."""
    choice, since, accept, again, back, learn = way
    text, begun, quiet, order, put = state
    if back != "offer" or offer == "":
        text = text[:-1]
    if back == "letter" or text == "":
        return (text, "", 0, order, "")
    return (text, "", 1, order, "")


def press(way, state, key):
    """Return the state behind a key."""
    if key in LETTERS:
        return press_letter(state, key)
    offer = offer_of(way, state)
    if key == "tab":
        return press_tab(way, state, offer)
    if key == "back":
        return press_back(way, state, offer)
    return press_putting(way, state, offer, key)


def walk(way, state, row):
    """Return the list of a state and of those behind each key of a row."""
    states = [state]
    for key in row:
        state = press(way, state, key)
        states.append(state)
    return states


def view_of(way, state, sight):
    """Return what is seen of a state in a sight."""
    text, begun, quiet, order, put = state
    if sight == 1:
        return put
    return (text, offer_of(way, state), put)


def is_order(value, words):
    """Tell whether a value is a tuple of the words of a list, in any order."""
    if not isinstance(value, tuple) or not all([isinstance(word, str) for word in value]):
        return False
    return sorted(value) == sorted(words)


def is_state(value, words):
    """Tell whether a value has the form of a state for a list of words."""
    if not isinstance(value, tuple) or len(value) != 5:
        return False
    text, begun, quiet, order, put = value
    return (
        is_text(text)
        and is_text(begun)
        and is_integer_among(quiet, QUIETS)
        and is_order(order, words)
        and is_text(put)
    )


def check_state(state, words):
    """Raise BadViews if a value has not the form of a state for a list of words."""
    if not is_state(state, words):
        raise BadViews("a state is a tuple (text, begun, quiet, order, put)")


def check_sight(sight):
    """Raise BadNumber if a value is not a sight."""
    if not is_integer_among(sight, SIGHTS):
        raise BadNumber("a sight is 0 or 1")
