"""The orders of texts, views and states, as ranks to sort by.

Strings alone would sort "aa" ahead of "b": texts come with the shorter ones
first, and so does whatever is made of texts.
"""


def text_rank(text):
    """Return the rank of a text: shorter ones first, then by their letters."""
    return (len(text), text)


def texts_rank(texts):
    """Return the rank of some texts: by the texts, from left to right."""
    return [text_rank(text) for text in texts]


def state_rank(state):
    """Return the rank of a state: by its items, from left to right."""
    text, begun, quiet, order, put = state
    return (text_rank(text), text_rank(begun), quiet, texts_rank(order), text_rank(put))


def sorted_views(views, sight):
    """Return the ascending list of some views of a sight."""
    if sight == 1:
        return sorted(views, key=text_rank)
    return sorted(views, key=texts_rank)
