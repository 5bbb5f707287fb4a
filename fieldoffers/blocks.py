"""The cores of some ways, put into blocks of those that are alike."""

from fieldoffers.cores import cores_by_way
from fieldoffers.states import first_state


def numbered(items):
    """Return the list of the numbers of some items, from 0 on: equal ones have one number."""
    numbers = {}
    for item in items:
        if item not in numbers:
            numbers[item] = len(numbers)
    return [numbers[item] for item in items]


def refined(looks, leads):
    """Return the list of the blocks of some places, those in one block being alike.

    A look is the tuple of the views behind the keys, a lead the list of the places
    behind them. At first places of one look are in one block. In each round those
    part that lead to places in unlike blocks: so the rounds part by longer and
    longer rows, and one that parts none is the last.
    """
    blocks = numbered(looks)
    many = 0
    while max(blocks) >= many:
        many = max(blocks) + 1
        blocks = numbered([
            (block, *[blocks[place] for place in lead]) for block, lead in zip(blocks, leads)
        ])
    return blocks


class Blocks:
    """The blocks of all cores to which some ways can come, and the steps between them.

    Two ways are alike from two states if, and only if, the cores of the states are
    in one block: whoever goes through pairs or sets of states to find out whether
    they are alike goes through blocks instead.
    """

    def __init__(self, family, words, sight):
        self.cores = cores_by_way(family, sight)
        self.numbers = {}
        self.moves = {}
        self.put_into_blocks(words)
        self.starts = [self.block_at(way, first_state(words)) for way in family]

    def put_into_blocks(self, words):
        """Number the blocks, and keep the steps of each: what is behind a key, and its view."""
        nodes = [(way, core) for way in self.cores for core in self.cores[way].reached(words)]
        places = {node: place for place, node in enumerate(nodes)}
        looks = []
        leads = []
        for way, core in nodes:
            steps = self.cores[way].steps(core)
            looks.append(tuple([view for _, view in steps]))
            leads.append([places[(way, behind)] for behind, _ in steps])
        blocks = refined(looks, leads)
        for node, block, look, lead in zip(nodes, blocks, looks, leads):
            self.numbers[node] = block
            self.moves[block] = [(blocks[place], view) for place, view in zip(lead, look)]

    def block_at(self, way, state):
        """Return the block of the core of a state of a way."""
        return self.numbers[(way, self.cores[way].core_of(state))]


def parts_behind(blocks, group, at):
    """Return the list of the parts into which a key parts a group of blocks, one key on.

    Each part is the list of the blocks behind the key, its place given, where one
    view is seen.
    """
    parts = {}
    for block in group:
        behind, view = blocks.moves[block][at]
        parts.setdefault(view, []).append(behind)
    return list(parts.values())
