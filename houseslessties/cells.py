"""Houses of several cells, ties that carry some of them, and which sums of cells are kept."""

from houseslessties.counters import counted_by, is_amount, need_modulus
from houseslessties.errors import Refused
from houseslessties.kinds import is_ascending, is_below, is_sequence, is_whole, replaced
from houseslessties.spans import vanishing
from houseslessties.webs import Web, need_house, need_tie, part_of, ways_on

MOST_CELLS = 8
MOST_CHANGES = 24


class Loads:
    """So many cells in each house, and by tie which of them it carries."""

    def __init__(self, web, cells, carried):
        if not is_whole(cells) or not 1 <= cells <= MOST_CELLS:
            raise Refused(cells)
        many = len(web.ties)
        known = all_cells(cells)
        if not is_sequence(carried, many, many) or not all([is_ascending(lot, known) for lot in carried]):
            raise Refused(carried)
        self.web = web
        self.cells = cells
        self.carried = tuple([tuple(lot) for lot in carried])

    def __eq__(self, other):
        if not isinstance(other, Loads):
            return False
        return self.web == other.web and self.cells == other.cells and self.carried == other.carried


def all_cells(cells):
    """The lot of so many cells."""
    return tuple(range(cells))


def is_amounts(loads, value):
    """Whether a value tells an amount for each cell."""
    return is_sequence(value, loads.cells, loads.cells) and all([is_amount(item) for item in value])


def need_amounts(loads, value):
    """The amounts themselves, by cell."""
    if not is_amounts(loads, value):
        raise Refused(value)
    return value


def need_changes(loads, value):
    """The changes themselves."""
    if not is_sequence(value, 0, MOST_CHANGES) or not all([is_amounts(loads, item) for item in value]):
        raise Refused(value)
    return value


def need_cell(loads, value):
    """The cell itself."""
    if not is_below(value, loads.cells):
        raise Refused(value)
    return value


class CellNet:
    """Houses that add to the numbers of their cells, and meet over ties that carry some cells."""

    def __init__(self, loads, modulus=0):
        self.modulus = need_modulus(modulus)
        self.loads = loads
        self.states = ((0,) * loads.cells,) * loads.web.houses
        self.archives = tuple([(0,) * len(lot) for lot in loads.carried])

    def do(self, house, amounts):
        """The house's numbers behind the amounts that are added."""
        need_house(self.loads.web, house)
        added = need_amounts(self.loads, amounts)
        sums = [number + amount for number, amount in zip(self.states[house], added)]
        self.states = replaced(self.states, house, tuple([counted_by(self.modulus, number) for number in sums]))
        return self.states[house]

    def meet(self, tie):
        """The numbers of both houses and the tie behind their meeting, by cell that the tie carries."""
        one, other = self.loads.web.ties[need_tie(self.loads.web, tie)]
        joined = []
        for cell, archive in zip(self.loads.carried[tie], self.archives[tie]):
            both = self.states[one][cell] + self.states[other][cell]
            joined.append(counted_by(self.modulus, both - archive))
        self.archives = replaced(self.archives, tie, tuple(joined))
        for house in (one, other):
            state = with_cells(self.states[house], self.loads.carried[tie], joined)
            self.states = replaced(self.states, house, state)
        return self.archives[tie]


def with_cells(state, cells, numbers):
    """A house's numbers with those of some cells put in."""
    behind = list(state)
    for cell, number in zip(cells, numbers):
        behind[cell] = number
    return tuple(behind)


def ties_carrying(loads, cell):
    """The ties, ascending, that carry a cell."""
    return [tie for tie, lot in enumerate(loads.carried) if cell in lot]


def cell_web(loads, cell):
    """The web of the ties that carry a cell, in their order."""
    need_cell(loads, cell)
    return Web(loads.web.houses, [loads.web.ties[tie] for tie in ties_carrying(loads, cell)])


def cell_book(net, house, cell):
    """A cell's sum over the houses that are joined with a house by ties that carry it, less that over these ties."""
    loads = net.loads
    need_house(loads.web, house)
    part = part_of(cell_web(loads, cell), house)
    book = sum([net.states[one][cell] for one in part])
    for tie in ties_carrying(loads, cell):
        if loads.web.ties[tie][0] in part:
            book -= net.archives[tie][loads.carried[tie].index(cell)]
    return counted_by(net.modulus, book)


def longer_ways(loads, ways):
    """(way, house to which it leads, lot) for each way that is one tie longer than one of these, ascending."""
    longer = []
    for way, here, lot in ways:
        for tie, there in ways_on(loads.web, here):
            if way[-1:] != (tie,):
                longer.append((way + (tie,), there, tuple([cell for cell in lot if cell in loads.carried[tie]])))
    return sorted(longer)


def lot_ways(loads):
    """By lot the shortest and then least way that has it, the shortest and then least ways ahead."""
    cells = all_cells(loads.cells)
    found = {cells: ()}
    seen = set()
    ways = [((), house, cells) for house in range(loads.web.houses)]
    while ways:
        fresh = []
        for way, there, lot in longer_ways(loads, ways):
            # What comes of a way is told by where it leads, over which tie, and its lot: so the first one is enough.
            if (there, way[-1], lot) not in seen:
                seen.add((there, way[-1], lot))
                found.setdefault(lot, way)
                fresh.append((way, there, lot))
        ways = fresh
    return found


def lots_of(loads):
    """The ascending unlike lots of all ways."""
    return tuple(sorted(lot_ways(loads)))


def weighed(lot, change, weights):
    """The weighted sum of a change's amounts over the cells of a lot."""
    return sum([weights[cell] * change[cell] for cell in lot])


def altering(lot, changes, weights, modulus):
    """The indices of the changes whose weighted sum over a lot is not 0, counted by the modulus."""
    sums = [counted_by(modulus, weighed(lot, change, weights)) for change in changes]
    return [deed for deed, total in enumerate(sums) if total != 0]


def sum_paper(loads, changes, weights, *, modulus=0):
    """None if the weighted sum stays 0 at every house in every run; else a way and a change that make it another."""
    deeds = need_changes(loads, changes)
    weight = need_amounts(loads, weights)
    need_modulus(modulus)
    if altering(all_cells(loads.cells), deeds, weight, modulus):
        raise Refused(weights)
    for lot, way in lot_ways(loads).items():
        wrong = altering(lot, deeds, weight, modulus)
        if wrong:
            return "sum", way, wrong[0]
    return None


def kept_sums(loads, changes):
    """The reduced form of all weights whose sum no change alters, and of which each lot and change makes 0."""
    deeds = need_changes(loads, changes)
    cells = all_cells(loads.cells)
    rows = [[change[cell] if cell in lot else 0 for cell in cells] for lot in lots_of(loads) for change in deeds]
    return vanishing(rows, loads.cells)


def tearing_tie(loads, amounts):
    """The first tie that carries some, but not all, of the cells in which the amounts are not 0; None for none."""
    moved = [cell for cell, amount in enumerate(need_amounts(loads, amounts)) if amount != 0]
    for tie, lot in enumerate(loads.carried):
        if 0 < len([cell for cell in moved if cell in lot]) < len(moved):
            return tie
    return None
