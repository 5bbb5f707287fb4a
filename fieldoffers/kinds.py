"""The states of a way, put together with those that it is alike from."""

from fieldoffers.blocks import Blocks
from fieldoffers.checks import check_field
from fieldoffers.orders import state_rank
from fieldoffers.reaching import rows_to_states


def alike_groups(way, words, sight):
    """Return the ascending list of the groups of states from which the way is alike to itself."""
    check_field(way, words, sight)
    blocks = Blocks([way], words, sight)
    groups = {}
    for state in sorted(rows_to_states(way, words), key=state_rank):
        groups.setdefault(blocks.block_at(way, state), []).append(state)
    return list(groups.values())


def count_kinds(way, words, sight):
    """Return the number of the groups of states from which the way is alike to itself."""
    check_field(way, words, sight)
    return len(Blocks([way], words, sight).moves)
