"""Texts of machines, webs and rows, and how they are read back."""

from houseslessties.errors import BadText
from houseslessties.machines import MOST_ROW, MOST_STATES, MOST_TABLES, Machine, check_row
from houseslessties.webs import MOST_HOUSES, MOST_TIES, Web, is_pair

NO_DEEDS = "-"


def number_line(numbers):
    """A line of numbers."""
    return " ".join([str(number) for number in numbers])


def machine_text(machine):
    """The text of a machine."""
    return "\n".join([f"states {machine.states}"] + [number_line(table) for table in machine.tables])


def web_text(web):
    """The text of a web."""
    return "\n".join([f"houses {web.houses}"] + [number_line(pair) for pair in web.ties])


def row_text(machine, row):
    """The text of a row."""
    deeds = check_row(machine, row)
    if not deeds:
        return NO_DEEDS
    return number_line(deeds)


def need_text(value):
    """The text itself."""
    if not isinstance(value, str):
        raise BadText(0)
    return value


def read_numbers(line, limit):
    """By word the number below the limit that it tells; None for a word that tells none."""
    # Only the limit's own texts are looked up: so no sign, no zero ahead, no other script's figure is taken.
    told = {str(number): number for number in range(limit)}
    return [told.get(word) for word in line.split(" ")]


def read_head(line, word, most):
    """How many there are, from 1, by a text's first line."""
    told = {f"{word} {many}": many for many in range(1, most + 1)}
    if line not in told:
        raise BadText(1)
    return told[line]


def read_machine(text):
    """The machine of a text."""
    lines = need_text(text).split("\n")
    states = read_head(lines[0], "states", MOST_STATES)
    if len(lines) == 1:
        raise BadText(2)
    tables = []
    for line in lines[1:]:
        table = read_numbers(line, states)
        if len(tables) == MOST_TABLES or len(table) != states or None in table:
            raise BadText(len(tables) + 2)
        tables.append(table)
    return Machine(tables)


def read_web(text):
    """The web of a text."""
    lines = need_text(text).split("\n")
    houses = read_head(lines[0], "houses", MOST_HOUSES)
    ties = []
    for line in lines[1:]:
        pair = read_numbers(line, houses)
        if len(ties) == MOST_TIES or not is_pair(pair, houses):
            raise BadText(len(ties) + 2)
        ties.append(pair)
    return Web(houses, ties)


def read_row(machine, text):
    """The row of a text."""
    if need_text(text) == NO_DEEDS:
        return ()
    deeds = read_numbers(text, machine.deeds)
    for at, deed in enumerate(deeds):
        if deed is None or at == MOST_ROW:
            raise BadText(at)
    return tuple(deeds)
