"""Values, machines and checks that several tests use."""

import copy
import itertools
import random

from houseslessties.breaks import Twin
from houseslessties.cells import CellNet, Loads
from houseslessties.counters import CounterNet
from houseslessties.desk import Desk
from houseslessties.machines import Machine
from houseslessties.nets import Net
from houseslessties.store import Store
from houseslessties.travellers import Traveller
from houseslessties.webs import Web


def nested(depth, value=()):
    """A value within so many lists and tuples, by turns."""
    for level in range(depth):
        value = [value] if level % 2 else (value,)
    return value


def any_values():
    """Values of all kinds, none of them a number below 13, tables, a row, a text or a paper."""
    return [
        True, False, None, -1, -2, 13, 10 ** 6, 10 ** 5000, -10 ** 5000,
        "", "0", "1", "untold", "states 1", "abc",
        Machine([(0,)]), Machine([(1, 0), (0, 0)]), Web(1, []), Web(3, [(0, 1), (2, 0)]),
        Net(Machine([(1, 0)]), Web(2, [(0, 1)]), 0), Traveller(Machine([(1, 0)]), 0), CounterNet(Web(1, []), 0, [0], []),
        Twin(Machine([(1, 0)]), 0), Store(Machine([(1, 0)]), Web(1, []), 1), Desk(Machine([(0,)]), Web(1, []), 0),
        Loads(Web(2, [(0, 1)]), 1, [(0,)]), CellNet(Loads(Web(1, []), 2, [])), (Loads(Web(1, []), 1, []),),
        [True], (False,), [None], (None, None), ["0"], ("01",), [[5]], ((2,), (1,)), [(), []],
        [-1], (0, -1), [0, True], (0, 0, None), [Machine([(0,)])], (Machine([(0,)]), 0),
        nested(39), nested(40, 0), [nested(38), nested(38, None)],
    ]


def no_numbers():
    """Any values that are no numbers below 13, sequences among them."""
    return any_values() + [[], (), [0], (0,), [0, 0]]


def machines_of(states, deeds):
    """All machines of so many states and deeds."""
    tables = list(itertools.product(range(states), repeat=states))
    return [Machine(chosen) for chosen in itertools.product(tables, repeat=deeds)]


def some_machines(many, seed=1):
    """So many machines of up to 5 states and 3 deeds, always the same ones."""
    rolls = random.Random(seed)
    found = []
    for _ in range(many):
        states = rolls.randrange(1, 6)
        deeds = rolls.randrange(1, 4)
        found.append(Machine([[rolls.randrange(states) for _ in range(states)] for _ in range(deeds)]))
    return found


def some_webs(many, seed=1):
    """So many webs of up to 6 houses and 8 ties, always the same ones."""
    rolls = random.Random(seed)
    found = []
    for _ in range(many):
        houses = rolls.randrange(1, 7)
        ties = rolls.randrange(9) if houses > 1 else 0
        found.append(Web(houses, [rolls.sample(range(houses), 2) for _ in range(ties)]))
    return found


def some_steps(web, deeds, many, rolls, meetings=0.6):
    """So many steps of a web with so many deeds, rolled."""
    steps = []
    for _ in range(many):
        if web.ties and rolls.random() < meetings:
            steps.append(("meet", rolls.randrange(len(web.ties))))
        else:
            steps.append(("do", rolls.randrange(web.houses), rolls.randrange(deeds)))
    return tuple(steps)


def all_steps(web, deeds, many):
    """All steps of just so many in a web with so many deeds."""
    each = [("do", house, deed) for house in range(web.houses) for deed in range(deeds)]
    each += [("meet", tie) for tie in range(len(web.ties))]
    return itertools.product(each, repeat=many)


def joined_to(web, house):
    """The houses that are joined with a house, itself among them."""
    found = {house}
    for _ in web.ties:
        found |= {other for pair in web.ties if found & set(pair) for other in pair}
    return found


def bent_steps(steps, at):
    """Values that are like these steps, but no steps at one place."""
    wrong = [
        (), ("do",), ("meet",), ("do", 0), ("meet", 0, 0), ("do", 0, 0, 0), ("Do", 0, 0), ("mee", 0), ("meeting", 0),
        ("do", True, 0), ("do", 0, False), ("meet", True), ("meet", False), ("do", 12, 0), ("do", 0, 8), ("meet", 20),
        ("do", -1, 0), ("do", 0, -1), ("meet", -1), ("do", "0", 0), ("do", 0, None), ("meet", None), ("meet", (0,)),
        ("do", (0, 0)), (("do", 0, 0),), ["meet", [0]], (0, 0, 0), (None, 0), "do", "meet", ("do", 10 ** 5000, 0),
        ([], 0, 0), (Machine([(0,)]), 0), (0, "meet"),
    ]
    return [tuple(steps[:at]) + (value,) + tuple(steps[at + 1:]) for value in wrong + any_values()]


def all_rows(deeds, most):
    """All rows of at most so many deeds, the first ones ahead."""
    return [row for length in range(most + 1) for row in itertools.product(range(deeds), repeat=length)]


def done(machine, state, row):
    """Where a row leads a state, told by the tables alone."""
    for deed in row:
        state = machine.tables[deed][state]
    return state


def reached(machine, *states):
    """The tuples of states to which rows lead these states together."""
    known = {states}
    fresh = [states]
    while fresh:
        ends = fresh.pop()
        for table in machine.tables:
            behind = tuple(table[state] for state in ends)
            if behind not in known:
                known.add(behind)
                fresh.append(behind)
    return known


def is_tupled(value):
    """Whether no list stands in a value."""
    return not isinstance(value, list) and (not isinstance(value, tuple) or all(map(is_tupled, value)))


def raised(test, error, function, *args, **names):
    """The attributes of the error that a call raises; no argument is changed by it."""
    before = copy.deepcopy(args)
    with test.assertRaises(error) as caught:
        function(*args, **names)
    test.assertIs(type(caught.exception), error)
    test.assertEqual(repr_of(args), repr_of(before))
    return vars(caught.exception)


def repr_of(value):
    """A text that tells lists from tuples and bools from integers, also of package objects."""
    if isinstance(value, (list, tuple)):
        return f"{type(value).__name__}({', '.join(map(repr_of, value))})"
    if hasattr(value, "__dict__"):
        return f"{type(value).__name__}:{repr_of(sorted(vars(value).items()))}"
    if isinstance(value, int) and not isinstance(value, bool):
        return hex(value)
    return repr(value)


MOST_WEB = Web(12, [(house, (house + 1) % 12) for house in range(12)] + [(house, house + 4) for house in range(8)])
FIVE = Web(5, [(0, 1), (1, 2), (2, 0), (3, 4)])
THREE = Web(3, [(0, 1), (1, 2), (2, 0)])
TWICE = Web(2, [(0, 1), (1, 0)])
LINE = Web(3, [(0, 1), (1, 2)])
WEEK = Machine([(1, 2, 3, 4, 5, 6, 0), (3, 4, 5, 6, 0, 1, 2)])
CLOCK = Machine([[(state + deed + 1) % 12 for state in range(12)] for deed in range(8)])
# Two marks that are set each for itself, a count to two that stays there, and a deed that does nothing.
FLAGS = Machine([(1, 1, 3, 3), (2, 3, 2, 3)])
FEW = Machine([(1, 2, 2)])
MIXED = Machine([(1, 0, 3, 2, 5, 4), (2, 3, 4, 5, 4, 5), (0, 1, 2, 3, 4, 5)])
MOST_MACHINE = Machine([[(state * (deed + 1) + deed) % 12 for state in range(12)] for deed in range(8)])
MOST_MIXED = Machine([[(state * (deed + 2) + 2 * deed + 1) % 12 for state in range(12)] for deed in range(8)])
WORN = Machine([(1, 2, 2, 3), (0, 0, 2, 3)])
TURN = Machine([(1, 2, 3, 0), (3, 2, 1, 0)])
RING = Machine([(1, 2, 3, 0), (2, 3, 0, 1)])
STEPS = Machine([(1, 2, 2), (0, 0, 0)])
SWAP = Machine([(1, 0, 2), (0, 2, 1)])
