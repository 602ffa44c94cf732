"""The machine of two machines one behind the other."""

from excerptcheck.errors import NotRead, TooLarge
from excerptcheck.exploring import explored
from excerptcheck.least import least_form
from excerptcheck.twoway import lefts_from, outputs_between, rights_before

MOST_STATES = 40
MOST_SYMBOLS = 27


def composed(first, second):
    """The machine that does what two machines do one behind the other."""
    inner = least_form(first)
    outer = least_form(second)
    _check_symbols(inner, outer)
    lefts = explored((0, (0,) * len(inner[2])), lambda pair: _longer_lefts(inner, outer, pair), most=MOST_STATES)
    rights = explored((0, (0,) * len(inner[1])), lambda pair: _longer_rights(inner, outer, pair), most=MOST_STATES)
    if lefts is None or rights is None:
        raise TooLarge(None)
    outputs = [_outputs_behind(inner, outer, left, rights[0]) for left in lefts[0]]
    return least_form((inner[0], lefts[1], rights[1], tuple(outputs)))


def _check_symbols(inner, outer):
    # All states of a least form are states of sequences, so each of its outputs is put out in some sequence.
    unread = [symbol for rows in inner[3] for row in rows for output in row for symbol in output
              if symbol not in outer[0]]
    if unread:
        raise NotRead(min(unread))


def _longer_lefts(inner, outer, pair):
    """The left pairs of a sequence with this left pair, followed by one symbol."""
    reads, left_rows, right_rows, outputs = inner
    state, lefts = pair
    found = []
    for index in range(len(reads)):
        after = []
        for right, output in enumerate(outputs[state][index]):
            # Before the symbol stands what was put out before a sequence that begins with it.
            begun = lefts[right_rows[right][index]]
            after.append(lefts_from(outer, begun, output)[-1])
        found.append((left_rows[state][index], tuple(after)))
    return found


def _longer_rights(inner, outer, pair):
    """The right pairs of a sequence with this right pair, with one symbol put before it."""
    reads, left_rows, right_rows, outputs = inner
    state, rights = pair
    found = []
    for index in range(len(reads)):
        before = []
        for left, rows in enumerate(outputs):
            # Behind the symbol stands what is put out behind a sequence that ends with it.
            begun = rights[left_rows[left][index]]
            before.append(rights_before(outer, begun, rows[index][state])[0])
        found.append((right_rows[state][index], tuple(before)))
    return found


def _outputs_behind(inner, outer, left, rights):
    """What is put out for each symbol behind a left pair and before each of the right pairs."""
    return tuple([tuple([_output_between(inner, outer, left, index, right) for right in rights])
                  for index in range(len(inner[0]))])


def _output_between(inner, outer, left, index, right):
    _, left_rows, right_rows, outputs = inner
    given = outputs[left[0]][index][right[0]]
    before = left[1][right_rows[right[0]][index]]
    behind = right[1][left_rows[left[0]][index]]
    put_out = outputs_between(outer, before, given, behind)
    found = tuple([symbol for output in put_out for symbol in output])
    if len(found) > MOST_SYMBOLS:
        raise TooLarge(None)
    return found
