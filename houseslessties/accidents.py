"""Accidents of nets of counters: by how much what is lost, put back or broken changes the books, and what mends it."""

from houseslessties.counters import CounterNet, counted_by
from houseslessties.errors import Refused
from houseslessties.kinds import is_below, is_whole, replaced
from houseslessties.webs import Web, is_pair, need_house, need_tie

OLD = "old"
NEW = "new"
OTHER = "other"


def need_whole(value):
    """The value itself, if it is an integer, as great as one likes."""
    if not is_whole(value):
        raise Refused(value)
    return value


def net_of(web, modulus, states, archives):
    """A net with any numbers, also with greater ones than those with which nets can be made."""
    net = CounterNet(web, modulus, (0,) * web.houses, (0,) * len(web.ties))
    net.states = tuple([counted_by(modulus, number) for number in states])
    net.archives = tuple([counted_by(modulus, number) for number in archives])
    return net


def all_books(net):
    """The sum of all houses less the sum of all ties."""
    return sum(net.states) - sum(net.archives)


def with_change(net, web, states, archives):
    """(the net that an accident leaves of a net, by how much the books are greater than before)."""
    left = net_of(web, net.modulus, states, archives)
    return left, counted_by(net.modulus, all_books(left) - all_books(net))


def tie_lost(net, tie):
    """(the net without a tie, change)."""
    need_tie(net.web, tie)
    ties = net.web.ties[:tie] + net.web.ties[tie + 1:]
    archives = net.archives[:tie] + net.archives[tie + 1:]
    return with_change(net, Web(net.web.houses, ties), net.states, archives)


def tie_opened(net, pair, archive):
    """(the net with one tie more between a pair of houses, change)."""
    if not is_pair(pair, net.web.houses):
        raise Refused(pair)
    need_whole(archive)
    web = Web(net.web.houses, net.web.ties + (pair,))
    return with_change(net, web, net.states, net.archives + (archive,))


def house_back(net, house, state, *, tie=None):
    """(the net in which a house, and with it perhaps a tie of it, has a state, change)."""
    need_house(net.web, house)
    need_whole(state)
    archives = net.archives
    if tie is not None:
        if house not in net.web.ties[need_tie(net.web, tie)]:
            raise Refused(tie)
        archives = replaced(archives, tie, state)
    return with_change(net, net.web, replaced(net.states, house, state), archives)


def meeting_broken(net, tie, side, archive):
    """(the net in which a meeting reached one side of a tie alone, change)."""
    need_tie(net.web, tie)
    if not is_below(side, 2):
        raise Refused(side)
    if archive not in (OLD, NEW, OTHER):
        raise Refused(archive)
    one, other = net.web.ties[tie]
    joined = net.states[one] + net.states[other] - net.archives[tie]
    kept = {OLD: net.archives[tie], NEW: joined, OTHER: net.states[net.web.ties[tie][1 - side]]}
    states = replaced(net.states, net.web.ties[tie][side], joined)
    return with_change(net, net.web, states, replaced(net.archives, tie, kept[archive]))


def lacking(net, house, truth):
    """The amount that a house must do so that the book of its part is the truth."""
    book = net.book(house)
    return counted_by(net.modulus, need_whole(truth) - book)
