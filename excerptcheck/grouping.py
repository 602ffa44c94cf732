"""Finding alike states by dividing them into ever smaller groups."""


def divisions(rows, marks):
    """The groups of the states of near rows, as they are divided further and further.

    At first two states are in the same group if their marks are equal. Division n tells for each state the
    number of its group by what sequences of up to n symbols lead to; the last one divides no further.
    """
    groups = _numbered(marks)
    found = [groups]
    while True:
        signs = [(groups[state], tuple([groups[after] for after in row])) for state, row in enumerate(rows)]
        divided = _numbered(signs)
        if divided == groups:
            return found
        groups = divided
        found.append(groups)


def _numbered(signs):
    """The number of each sign, where equal signs have one number, given when the first of them is met."""
    numbers = {}
    found = []
    for sign in signs:
        if sign not in numbers:
            numbers[sign] = len(numbers)
        found.append(numbers[sign])
    return found


def joined(rows, marks):
    """The first state of each group of alike states of near rows, and the rows of the groups.

    The groups are near, too: the first sequence of a group is that of its first state.
    """
    groups = divisions(rows, marks)[-1]
    firsts = []
    for state, group in enumerate(groups):
        if group == len(firsts):
            firsts.append(state)
    return firsts, tuple([tuple([groups[after] for after in rows[first]]) for first in firsts])
