"""What of a state matters for what is seen later: there are far fewer cores than states."""

from fieldoffers.states import (
    first_state, open_offer, press_back, press_letter, press_putting, press_tab,
)
from fieldoffers.words import WORD_LETTERS


def core_order(way, order):
    """Return what of an order of words matters for later offers.

    Only words of more letters than since are ever offered, or come next behind
    what was begun, and of these only words that begin with the same so many letters
    compete: the order among those is kept, and nothing else of an order.
    """
    choice, since, accept, again, back, learn = way
    longer = [word for word in order if len(word) > since]
    return tuple(sorted(longer, key=lambda word: word[:since]))


class Cores:
    """The cores of the states of a way in one sight, and the steps between them.

    The core of a state is itself a state, from which the same is seen for all rows.
    What has been worked out is kept: steps are looked up more often than taken.
    """

    def __init__(self, way, sight):
        choice, since, accept, again, back, learn = way
        self.way = way
        self.sight = sight
        # What was begun serves to go on to the next word alone.
        self.goes_on = again == "next"
        # Else end does what blank does.
        self.parts_blank = accept == "blank"
        self.orders = {}
        self.offers = {}
        self.known = {}

    def offer_at(self, text, order):
        """Return the offer behind a text if nothing keeps it quiet."""
        if (text, order) not in self.offers:
            self.offers[(text, order)] = open_offer(self.way, text, order)
        return self.offers[(text, order)]

    def landing(self, state):
        """Return a tuple: the core of a state, and what is seen of the state."""
        text, begun, quiet, order, put = state
        if order not in self.orders:
            self.orders[order] = core_order(self.way, order)
        order = self.orders[order]
        offer = ""
        if len(text) < WORD_LETTERS:
            offer = self.offer_at(text, order)
        if not self.goes_on:
            begun = ""
        if offer == "" and begun == "":
            # There is nothing to keep quiet here, and quiet does not outlast a key
            # that changes the text, but for going on to the next word.
            quiet = 0
        core = (text, begun, quiet, order, "")
        if self.sight == 1:
            return (core, put)
        if quiet == 1:
            offer = ""
        return (core, (text, offer, put))

    def core_of(self, state):
        """Return the core of a state."""
        return self.landing(state)[0]

    def steps_from(self, core):
        """Return the list of the steps from a core, for the keys in order, worked out anew."""
        text, begun, quiet, order, put = core
        offer = ""
        if quiet == 0:
            offer = self.offer_at(text, order)
        letter_a = self.landing(press_letter(core, "a"))
        letter_b = self.landing(press_letter(core, "b"))
        tab = self.landing(press_tab(self.way, core, offer))
        blank = self.landing(press_putting(self.way, core, offer, "blank"))
        back = self.landing(press_back(self.way, core, offer))
        end = blank
        if self.parts_blank and offer != "":
            end = self.landing(press_putting(self.way, core, offer, "end"))
        return [letter_a, letter_b, tab, blank, back, end]

    def steps(self, core):
        """Return the list of the steps from a core, for the keys in order.

        A step is a tuple: the core behind a key, and the view seen there.
        """
        if core not in self.known:
            self.known[core] = self.steps_from(core)
        return self.known[core]

    def start(self, words):
        """Return the core of the state ahead of all keys."""
        return self.core_of(first_state(words))

    def reached(self, words):
        """Return the list of the cores of all states that rows lead to."""
        start = self.start(words)
        found = {start: True}
        newest = [start]
        while len(newest) > 0:
            behind = [core for known in newest for core, _ in self.steps(known)]
            newest = []
            for core in behind:
                if core not in found:
                    found[core] = True
                    newest.append(core)
        return list(found)


def cores_by_way(family, sight):
    """Return a dict: each way of a family, and its cores in a sight."""
    return {way: Cores(way, sight) for way in family}
