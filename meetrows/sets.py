"""Names and sets of names: what they are, how they lie to one another, and their order."""

from meetrows.errors import BadName

MOST_LETTERS = 8


def is_name(thing):
    """Whether a thing of any kind is a name: a text of 1 to 8 small letters."""
    if not isinstance(thing, str) or not 1 <= len(thing) <= MOST_LETTERS:
        return False
    # islower() and its kin would also take letters beyond a to z.
    return all("a" <= letter <= "z" for letter in thing)


def rising(names):
    """The set of a list of names, of which some may stand twice; BadName for a thing that is no name."""
    for at, thing in enumerate(names):
        if not is_name(thing):
            # The thing itself is not shown: not everything can be written out.
            raise BadName(f"item {at} of the list is not a text of 1 to {MOST_LETTERS} small letters")
    return _once_each(names)


def within(one, other):
    """Whether all names of the one set stand in the other."""
    return all(name in other for name in one)


def meets(one, other):
    """Whether some name stands in both sets."""
    return any(name in other for name in one)


def ranked(sets):
    """The sets, each handed rising, by how many names they have, of as many by their names in order."""
    return sorted([list(one) for one in sets], key=_rank)


def least_of(sets):
    """The sets within which no other one lies but itself, each once, ranked, each rising."""
    # rising would refuse what is no name, and nothing is refused here.
    once = {tuple(_once_each(one)): True for one in sets}
    kept = []
    # Whatever lies within a set has fewer names and so stands ahead of it. What was
    # left out before need not be asked: some kept one lies within it, and so here, too.
    for one in ranked(list(once)):
        if not any(within(least, one) for least in kept):
            kept.append(one)
    return kept


def _once_each(names):
    """The names in order, each once."""
    return sorted(set(names))


def _rank(one):
    """What is compared of a set so that sets stand in their order."""
    return (len(one), one)
