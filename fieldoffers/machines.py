"""What can be seen of a way, whatever keys are pressed, in as few states as will do."""

from fieldoffers.words import LETTERS


def is_begun(text, words):
    """Tell whether one of some words begins with a text, or is it."""
    for word in words:
        if word.startswith(text):
            return True
    return False


def texts_ahead(text, words):
    """Return the list of the texts that a letter makes of a text, those that are looked at.

    Where no word begins with a text, nothing is offered or learned, and all ways do
    the same: more letters there lead to nothing but more of this, and one letter
    does what the other does. So none is looked at from there, and one alone where
    both lead there: a view row that tells two ways apart by other texts has one
    that is shorter, or comes ahead of it, by these.
    """
    if not is_begun(text, words):
        return []
    longer = [text + letter for letter in LETTERS]
    if any([is_begun(other, words) for other in longer]):
        return longer
    return longer[:1]


class Machine:
    """The states of a way with a profile for a list of 1 or 2 words, and what is seen in a sight.

    A state is a tuple (text, begun, quiet, order): the order is the place in the
    list of the word in front, begun and quiet stand only where something depends
    on them. Each state has a bit, the first one 1, and some states together are
    the sum of their bits.
    """

    def __init__(self, profile, words, sight):
        self.accept, self.back, self.offers = profile
        self.words = tuple(words)
        self.sight = sight
        self.bits = {}
        self.states = {}
        self.known = {}
        self.landing("", "", 0, 0, "")

    def landing(self, text, begun, quiet, order, put):
        """Return a tuple: the bit of a state behind a key, and the view seen of it."""
        offer = ""
        if text in self.offers[order]:
            if quiet == 0:
                offer = self.offers[order][text][0][len(text):]
        elif begun == "":
            quiet = 0
        state = (text, begun, quiet, order)
        if state not in self.bits:
            bit = 1 << len(self.bits)
            self.bits[state] = bit
            self.states[bit] = state
        if self.sight == 1:
            return (self.bits[state], put)
        return (self.bits[state], (text, offer, put))

    def behind_tab(self, state, tabbed):
        """Return the landing behind tab."""
        text, begun, quiet, order = state
        if len(tabbed) > 2:
            return self.landing(tabbed[0], text, 1, order, "")
        if len(tabbed) > 0:
            # The text that tab leads to is the only one: begun serves for nothing.
            return self.landing(tabbed[0], "", 1, order, "")
        if begun != "":
            texts = self.offers[order][begun]
            text = texts[texts.index(text) + 1]
        return self.landing(text, begun, quiet, order, "")

    def texts_put_in(self, text, tabbed):
        """Return the list of the texts that blank and end put in."""
        if len(tabbed) == 0 or self.accept == "tab":
            return [text]
        if self.accept == "always":
            return [tabbed[0]]
        return [tabbed[0], text]

    def behind_putting(self, text, order):
        """Return the landing behind a text that is put in, perhaps an empty one."""
        if len(self.offers) > 1 and text in self.words:
            order = self.words.index(text)
        return self.landing("", "", 0, order, text)

    def behind_back(self, state, tabbed):
        """Return the landing behind back."""
        text, begun, quiet, order = state
        if self.back != "offer" or len(tabbed) == 0:
            text = text[:-1]
        quiet = 1
        if self.back == "letter" or text == "":
            quiet = 0
        return self.landing(text, "", quiet, order, "")

    def landings(self, state):
        """Return the list of the landings behind all keys from a state."""
        text, begun, quiet, order = state
        tabbed = ()
        if quiet == 0:
            tabbed = self.offers[order].get(text, ())
        return [
            *[self.landing(longer, "", 0, order, "") for longer in texts_ahead(text, self.words)],
            self.behind_tab(state, tabbed),
            self.behind_back(state, tabbed),
            *[self.behind_putting(put, order) for put in self.texts_put_in(text, tabbed)],
        ]

    def seen_from(self, bit):
        """Return a dict: each view that can be seen next of a state, and the states behind it."""
        seen = {}
        for behind, view in self.landings(self.states[bit]):
            seen[view] = seen.get(view, 0) | behind
        return seen

    def seen_together(self, bits):
        """Return a dict: each view that can be seen next of some states, and those behind it."""
        together = {}
        while bits > 0:
            bit = bits & -bits
            for view, behind in self.views_ahead(bit).items():
                together[view] = together.get(view, 0) | behind
            bits = bits - bit
        return together

    def views_ahead(self, bits):
        """Return what seen_together tells of one or more states, each time the same dict."""
        if bits not in self.known:
            if bits in self.states:
                self.known[bits] = self.seen_from(bits)
            else:
                self.known[bits] = self.seen_together(bits)
        return self.known[bits]
