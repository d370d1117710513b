"""How least sets grow by one row more."""

from meetrows.handed import row_from
from meetrows.sets import least_of, meets


def grown(sets, row):
    """The least sets behind one row more, ranked, for the list of those ahead; the row is refused as by Book.put."""
    names = row_from(row)
    found = []
    for one in sets:
        if meets(one, names):
            found.append(one)
        else:
            # An empty row adds nothing here: no set meets it.
            found.extend([[*one, name] for name in names])
    return least_of(found)
