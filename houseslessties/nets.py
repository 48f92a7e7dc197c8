"""Steps, nets of houses that do them, and the truth behind them."""

from houseslessties.errors import BadSteps
from houseslessties.joins import join
from houseslessties.kinds import is_below, is_sequence, replaced
from houseslessties.machines import MOST_TABLES, moved, need_deed, need_state
from houseslessties.webs import need_house, need_tie, part_of

MOST_STEPS = 400
DO = "do"
MEET = "meet"


def is_step(web, deeds, value):
    """Whether a value is a deed, one of so many, done at a house, or a meeting over a tie."""
    if is_sequence(value, 3, 3):
        return value[0] == DO and is_below(value[1], web.houses) and is_below(value[2], deeds)
    return is_sequence(value, 2, 2) and value[0] == MEET and is_below(value[1], len(web.ties))


def steps_fault(web, deeds, value):
    """None for steps; else what BadSteps tells of the value."""
    if not is_sequence(value, 0, MOST_STEPS):
        return -1
    for at, step in enumerate(value):
        if not is_step(web, deeds, step):
            return at
    return None


def steps_of(web, deeds, value):
    """The steps as tuples."""
    at = steps_fault(web, deeds, value)
    if at is not None:
        raise BadSteps(at)
    return tuple([tuple(step) for step in value])


def check_steps(machine, web, value):
    """The steps of a web with a machine's deeds as tuples."""
    return steps_of(web, machine.deeds, value)


def any_steps(web, value):
    """The steps of a web with any machine's deeds as tuples."""
    return steps_of(web, MOST_TABLES, value)


# Stores stand, do deeds and meet as nets do: so this is told here of both, and each class adds what is its own.
def stand_first(net, machine, web, first):
    """All houses and ties of a net stand in the first state; no steps were done."""
    net.first = need_state(machine, first)
    net.machine = machine
    net.web = web
    net.states = (first,) * web.houses
    net.archives = (first,) * len(web.ties)
    net.steps = ()


def done_at(net, house, deed):
    """The state of a net's house behind its deed."""
    need_house(net.web, house)
    table = net.machine.tables[need_deed(net.machine, deed)]
    net.states = replaced(net.states, house, table[net.states[house]])
    net.steps = net.steps + ((DO, house, deed),)
    return net.states[house]


def joined_over(net, tie):
    """The join of a tie's archive and the states of its houses, ahead of their meeting."""
    one, other = net.web.ties[need_tie(net.web, tie)]
    return join(net.machine, net.archives[tie], net.states[one], net.states[other])


def put_joined(net, tie, joined):
    """Both houses and the tie of a net have the join behind their meeting."""
    one, other = net.web.ties[tie]
    net.states = replaced(replaced(net.states, one, joined), other, joined)
    net.archives = replaced(net.archives, tie, joined)
    net.steps = net.steps + ((MEET, tie),)


class Net:
    """Houses that do deeds, each to its own copy, and meet over ties."""

    def __init__(self, machine, web, first):
        stand_first(self, machine, web, first)

    def do(self, house, deed):
        """The house's state behind the deed."""
        return done_at(self, house, deed)

    def meet(self, tie):
        """The state of both houses and the tie behind their meeting."""
        joined = joined_over(self, tie)
        put_joined(self, tie, joined)
        return joined


def take(books, step):
    """A net, or what else hears deeds and meetings, takes one step on."""
    if step[0] == DO:
        books.do(step[1], step[2])
    else:
        books.meet(step[1])


def standing_after(machine, web, first, steps):
    """(states by house, archives by tie) behind steps."""
    net = Net(machine, web, first)
    for step in check_steps(machine, web, steps):
        take(net, step)
    return net.states, net.archives


def truth_of(machine, web, first, steps, house):
    """The first state led by all deeds that were done in the house's part, each once."""
    need_state(machine, first)
    checked = check_steps(machine, web, steps)
    part = part_of(web, house)
    return moved(machine, first, [step[2] for step in checked if step[0] == DO and step[1] in part])
