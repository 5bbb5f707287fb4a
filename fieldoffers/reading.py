"""Ways read from records: rows of keys with what was seen behind each key."""

from fieldoffers.checks import check_field, check_several
from fieldoffers.states import first_state, view_of, walk
from fieldoffers.views import check_record, check_records


def bar_of(way, words, sight, record):
    """Return the place of the first key behind which another view is seen, or None."""
    row, views = record
    states = walk(way, first_state(words), row)
    for place, view in enumerate(views):
        if view_of(way, states[place + 1], sight) != view:
            return place
    return None


def first_record_bar(way, words, sight, records):
    """Return the place of the first record that a way did not make, with its bar, or None."""
    for place, record in enumerate(records):
        bar = bar_of(way, words, sight, record)
        if bar is not None:
            return (place, bar)
    return None


def first_bar(way, words, sight, record):
    """Return the place of the first key behind which another view is seen, or None."""
    check_field(way, words, sight)
    check_record(record, sight)
    return bar_of(way, words, sight, record)


def made(way, words, sight, record):
    """Tell whether a way shows the views of a record for its row."""
    return first_bar(way, words, sight, record) is None


def bars(family, words, sight, records):
    """Return, for each way, None or the place of the first record that bars it, and its bar."""
    check_several(family, words, sight)
    check_records(records, sight)
    return [first_record_bar(way, words, sight, records) for way in family]


def remains(family, words, sight, records):
    """Return the ascending list of the places of the ways that made all records."""
    found = bars(family, words, sight, records)
    return [place for place, bar in enumerate(found) if bar is None]
