"""Symbols, sequences of symbols, and texts that stand for them."""

from excerptcheck.errors import InvalidText

EDITOR = "@"


def symbols(letters, owners):
    """The ascending tuple of the symbols of an alphabet."""
    # The editor precedes all owners as a string, too.
    return _combined(letters, EDITOR + owners)


def owner_symbols(letters, owners):
    """The ascending tuple of the symbols of an alphabet that do not belong to the editor."""
    return _combined(letters, owners)


def _combined(letters, holders):
    return tuple([holder + letter for holder in holders for letter in letters])


def precedes(first, second, *, mirrored=False):
    """True if the first sequence precedes the second one in the order, or in the mirrored order."""
    if len(first) != len(second):
        return len(first) < len(second)
    if mirrored:
        return first[::-1] < second[::-1]
    return first < second


def encoded(sequence):
    """The canonical text of a sequence."""
    parts = []
    holder = ""
    for symbol in sequence:
        if symbol[0] != holder:
            holder = symbol[0]
            parts.append(holder)
        parts.append(symbol[1])
    return "".join(parts)


def decoded(text):
    """The sequence for which a text stands."""
    found = []
    holder = ""
    # A holder can follow only where the one before has a letter already.
    complete = True
    for place, character in enumerate(text):
        if is_letter(character) and holder != "":
            found.append(holder + character)
            complete = True
        elif is_holder(character) and complete:
            holder = character
            complete = False
        else:
            raise InvalidText(place)
    if not complete:
        raise InvalidText(len(text))
    return tuple(found)


def is_letter(character):
    """True for a to z."""
    return "a" <= character <= "z"


def is_holder(character):
    """True for the editor and for A to Z."""
    return character == EDITOR or "A" <= character <= "Z"
