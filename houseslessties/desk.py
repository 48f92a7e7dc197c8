"""A store that is led by lines of text."""

from houseslessties.errors import BadText, NoDeed, NoHouse, NoTie, Refused, Untold
from houseslessties.store import Store
from houseslessties.texts import NO_DEEDS, number_line

FIGURES = "0123456789"
MOST_FIGURES = 9
NO_COPY = "none"


def said_do(store, numbers):
    """The house's state behind its deed."""
    return str(store.do(numbers[0], numbers[1]))


def said_meet(store, numbers):
    """The state behind a meeting."""
    return str(store.meet(numbers[0]))


def said_read(store, numbers):
    """The state that was read."""
    return str(store.read(numbers[0]))


def said_states(store, _):
    """The states by house."""
    return number_line(store.states)


def tie_line(archives):
    """A line of archives."""
    return number_line(archives) if archives else NO_DEEDS


def said_ties(store, _):
    """The archives by tie."""
    return tie_line(store.archives)


def said_copies(store, _):
    """The copies of the walk under way."""
    return number_line(["?" if copy is None else copy for copy in store.copies])


def said_steps(store, _):
    """How many steps count."""
    return str(len(store.steps))


def said_backup(store, _):
    """The last whole copy."""
    if store.backup is None:
        return NO_COPY
    states, archives = store.backup
    return f"{number_line(states)}, {tie_line(archives)}"


def said_caught(store, _):
    """How many steps the last whole copy holds."""
    return NO_COPY if store.caught is None else str(len(store.caught))


def said_back(store, _):
    """Whether the last whole copy was put back."""
    if store.backup is None:
        return NO_COPY
    store.put_back()
    return "ok"


# By first word, and how many numbers follow it, what is done.
FORMS = {
    ("do", 2): said_do, ("meet", 1): said_meet, ("read", 1): said_read, ("states", 0): said_states,
    ("ties", 0): said_ties, ("copies", 0): said_copies, ("steps", 0): said_steps, ("backup", 0): said_backup,
    ("caught", 0): said_caught, ("back", 0): said_back,
}


def number_of(word):
    """The number that a word tells; BadText for a word that tells none."""
    if not 1 <= len(word) <= MOST_FIGURES or not all([figure in FIGURES for figure in word]):
        raise BadText(0)
    if len(word) > 1 and word[0] == "0":
        raise BadText(0)
    return int(word)


class Desk:
    """A store, and what is said of it."""

    def __init__(self, machine, web, first):
        self.store = Store(machine, web, first)

    def say(self, line):
        """The answer to a line."""
        if not isinstance(line, str):
            raise BadText(0)
        words = line.split(" ")
        form = (words[0], len(words) - 1)
        if form not in FORMS:
            raise BadText(0)
        numbers = [number_of(word) for word in words[1:]]
        action = FORMS[form]
        try:
            return action(self.store, numbers)
        except Untold:
            return "untold"
        except (NoHouse, NoDeed, NoTie, Refused):
            return "refused"
