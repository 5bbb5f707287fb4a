"""The fewest keys that put texts in, and the texts that can never be put in."""

from math import gcd

from fieldoffers.cores import Cores
from fieldoffers.errors import NotFound
from fieldoffers.keys import check_row
from fieldoffers.rows import first_row_to_end
from fieldoffers.states import first_state, walk
from fieldoffers.ways import check_way
from fieldoffers.words import all_texts, check_list, check_wanted

# What is put in is what the sight 1 shows.
PUT_SIGHT = 1


def cores_ahead(cores, core, wanted):
    """Return, for the keys in order, the cores behind them, or True where a text is put in."""
    return [True if put == wanted else behind for behind, put in cores.steps(core)]


def fewest_keys(cores, start):
    """Return a dict: each text that can be put in from a core, and the fewest keys for it."""
    fewest = {}
    known = {start: True}
    newest = [start]
    many = 0
    while len(newest) > 0:
        steps = [step for core in newest for step in cores.steps(core)]
        newest = []
        many += 1
        for core, put in steps:
            if put != "" and put not in fewest:
                fewest[put] = many
            if core not in known:
                known[core] = True
                newest.append(core)
    return fewest


def fewest_from_first(way, words):
    """Return a dict: each text that can be put in from the first state, and the fewest keys."""
    cores = Cores(way, PUT_SIGHT)
    return fewest_keys(cores, cores.start(words))


def row_for(way, words, row, wanted):
    """Return the first of the shortest rows that, behind a row, put a text in last."""
    check_way(way)
    check_list(words)
    check_row(row)
    check_wanted(wanted)
    cores = Cores(way, PUT_SIGHT)
    start = cores.core_of(walk(way, first_state(words), row)[-1])
    found = first_row_to_end(start, lambda core: cores_ahead(cores, core, wanted))
    if found is None:
        raise NotFound("no row puts this text in")
    return found


def never_put(way, words):
    """Return the list of the texts of 1 to 4 letters, in order, that are never put in."""
    check_way(way)
    check_list(words)
    fewest = fewest_from_first(way, words)
    return [text for text in all_texts() if text not in fewest]


def fraction(numerator, denominator):
    """Return a fraction in lowest terms, of a denominator above 0."""
    divisor = gcd(numerator, denominator)
    return (numerator // divisor, denominator // divisor)


def saved(way, words):
    """Return the mean number of keys that offers save for a word of the list."""
    check_way(way)
    check_list(words)
    fewest = fewest_from_first(way, words)
    for word in words:
        if word not in fewest:
            raise NotFound("a word of the list is never put in")
    return fraction(sum([len(word) + 1 - fewest[word] for word in words]), len(words))


def costs(way, words, wanted):
    """Return a tuple: the fewest keys that put a text in from an empty field, and the most."""
    check_way(way)
    check_list(words)
    check_wanted(wanted)
    cores = Cores(way, PUT_SIGHT)
    empty = [core for core in cores.reached(words) if core[0] == ""]
    found = [fewest_keys(cores, core).get(wanted) for core in empty]
    known = [many for many in found if many is not None]
    if len(known) == 0:
        return (None, None)
    if len(known) < len(found):
        return (min(known), None)
    return (min(known), max(known))
