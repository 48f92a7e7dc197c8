"""Steps, nets of houses that do them, and the truth behind them."""

from houseslessties.errors import BadSteps
from houseslessties.joins import join
from houseslessties.kinds import is_below, is_sequence, replaced
from houseslessties.machines import MOST_TABLES, moved, need_deed, need_state
from houseslessties.webs import need_house, need_tie, part_of

MOST_STEPS = 400
DO = "do"
MEET = "meet"


def is_step(web, deeds, value):
    """Whether a value is a deed, one of so many, done at a house, or a meeting over a tie."""
    if is_sequence(value, 3, 3):
        return value[0] == DO and is_below(value[1], web.houses) and is_below(value[2], deeds)
    return is_sequence(value, 2, 2) and value[0] == MEET and is_below(value[1], len(web.ties))


def steps_fault(web, deeds, value):
    """None for steps; else what BadSteps tells of the value."""
    if not is_sequence(value, 0, MOST_STEPS):
        return -1
    for at, step in enumerate(value):
        if not is_step(web, deeds, step):
            return at
    return None


def steps_of(web, deeds, value):
    """The steps as tuples."""
    at = steps_fault(web, deeds, value)
    if at is not None:
        raise BadSteps(at)
    return tuple([tuple(step) for step in value])


def check_steps(machine, web, value):
    """The steps of a web with a machine's deeds as tuples."""
    return steps_of(web, machine.deeds, value)


def any_steps(web, value):
    """The steps of a web with any machine's deeds as tuples."""
    return steps_of(web, MOST_TABLES, value)


class Net:
    """Houses that do deeds, each to its own copy, and meet over ties."""

    def __init__(self, machine, web, first):
        self.first = need_state(machine, first)
        self.machine = machine
        self.web = web
        self.states = (first,) * web.houses
        self.archives = (first,) * len(web.ties)
        self.steps = ()

    def do(self, house, deed):
        """The house's state behind the deed."""
        need_house(self.web, house)
        table = self.machine.tables[need_deed(self.machine, deed)]
        self.states = replaced(self.states, house, table[self.states[house]])
        self.steps = self.steps + ((DO, house, deed),)
        return self.states[house]

    def meet(self, tie):
        """The state of both houses and the tie behind their meeting."""
        joined = self.joined_over(tie)
        self.put_joined(tie, joined)
        return joined

    def joined_over(self, tie):
        """The join of a tie's archive and the states of its houses."""
        one, other = self.web.ties[need_tie(self.web, tie)]
        return join(self.machine, self.archives[tie], self.states[one], self.states[other])

    def put_joined(self, tie, joined):
        """Both houses and the tie have the join now."""
        one, other = self.web.ties[tie]
        self.states = replaced(replaced(self.states, one, joined), other, joined)
        self.archives = replaced(self.archives, tie, joined)
        self.steps = self.steps + ((MEET, tie),)


def take(books, step):
    """A net, or what else hears deeds and meetings, takes one step on."""
    if step[0] == DO:
        books.do(step[1], step[2])
    else:
        books.meet(step[1])


def standing_after(machine, web, first, steps):
    """(states by house, archives by tie) behind steps."""
    net = Net(machine, web, first)
    for step in check_steps(machine, web, steps):
        take(net, step)
    return net.states, net.archives


def truth_of(machine, web, first, steps, house):
    """The first state led by all deeds that were done in the house's part, each once."""
    need_state(machine, first)
    checked = check_steps(machine, web, steps)
    part = part_of(web, house)
    return moved(machine, first, [step[2] for step in checked if step[0] == DO and step[1] in part])
