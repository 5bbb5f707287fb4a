"""What a way comes to for a list of 1 or 2 words: ways that come to the same are alike."""

from fieldoffers.states import chosen_of, word_behind


def fitting_by_text(words, since):
    """Return a dict: each text of enough letters for an offer, and the words that fit it."""
    fitting = {}
    for word in words:
        for many in range(since, len(word)):
            fitting.setdefault(word[:many], []).append(word)
    return fitting


def texts_by_tab(way, text, words):
    """Return the tuple of the texts behind tab, and tab again, from a text that words fit.

    The last of them is the first one that came before: from there on they come
    round. The tuple is empty if nothing is offered.
    """
    choice, since, accept, again, back, learn = way
    if len(words) == 1:
        return (words[0], words[0])
    taken = chosen_of(choice, words)
    if taken == text:
        return ()
    if again == "stay":
        return (taken, taken)
    texts = [taken]
    behind = word_behind(taken, words)
    while behind not in texts:
        texts.append(behind)
        behind = word_behind(behind, words)
    return (*texts, behind)


def offers_by_text(way, fitting):
    """Return a dict: each text behind which there is an offer, and its texts by tab."""
    offers = {}
    for text, words in fitting.items():
        texts = texts_by_tab(way, text, words)
        if len(texts) > 0:
            offers[text] = texts
    return offers


def is_put_in(word, accept, back, offers):
    """Tell whether some row puts a word in, as long as what is offered stays as it is.

    If blank and end always take the offer, there has to be none behind the word: it
    is kept back by a way whose back does so, or where tab has led to the word.
    """
    if accept != "always" or back != "letter" or word not in offers:
        return True
    return any([word in texts for texts in offers.values()])


def profile_of(way, words):
    """Return the profile of a way for a list of 1 or 2 words.

    It is a tuple: accept, back, and the list of the offers by text, for the order of
    the list and then, if it can be learned and changes them, for the other one.

    Ways with one profile are alike, in both sights: all that a key does is told by
    it and by the words. Ways with two profiles are not: what unlike offers make of
    tab, or unlike accept or back of a key behind an offer, shows in what is put in
    next, in the order of the list or behind its second word.
    """
    choice, since, accept, again, back, learn = way
    fitting = fitting_by_text(words, since)
    offers = offers_by_text(way, fitting)
    if len(offers) == 0:
        # Nothing is ever offered: whatever else a way tells comes to the same.
        return ("tab", "letter", [offers])
    if learn == 1:
        learned = offers_by_text(way, {text: fitting[text][::-1] for text in fitting})
        if learned != offers and is_put_in(words[1], accept, back, offers):
            return (accept, back, [offers, learned])
    return (accept, back, [offers])
