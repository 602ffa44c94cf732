"""The two-way machines of stages and of pipelines."""

from excerptcheck.composing import composed
from excerptcheck.errors import TooLarge
from excerptcheck.exploring import explored
from excerptcheck.least import least_form
from excerptcheck.machines import machine
from excerptcheck.matching import belongs
from excerptcheck.pipelines import rule_output
from excerptcheck.symbols import owner_symbols, symbols
from excerptcheck.trees import mirrored

MOST_LISTS = 40


def stage_machine(reads, stage):
    """The machine of a stage over `reads`."""
    befores = [machine(reads, rule[0]) for rule in stage]
    # What stands behind a symbol is read from the end of the sequence.
    afters = [machine(reads, mirrored(rule[2])) for rule in stage]
    lefts = _lists(befores)
    rights = _lists(afters)
    if lefts is None or rights is None:
        raise TooLarge(None)
    left_signs = [_signs(befores, classes) for classes in lefts[0]]
    right_signs = [_signs(afters, classes) for classes in rights[0]]
    outputs = [_outputs_behind(reads, stage, signs, right_signs) for signs in left_signs]
    return least_form((reads, lefts[1], rights[1], tuple(outputs)))


def pipeline_machine(letters, owners, pipeline):
    """The machine of a pipeline over an alphabet."""
    found = None
    for number, stage in enumerate(pipeline):
        try:
            found = _continued(found, letters, owners, stage)
        except TooLarge:
            raise TooLarge(number) from None
    return found


def _continued(found, letters, owners, stage):
    """The machine found so far with one more stage behind it, None standing for the document."""
    if found is None:
        return stage_machine(owner_symbols(letters, owners), stage)
    return composed(found, stage_machine(symbols(letters, owners), stage))


def _lists(acceptors):
    """The lists of the classes of all sequences and their near rows, None if there are too many."""
    return explored((0,) * len(acceptors), lambda classes: _longer_lists(acceptors, classes), most=MOST_LISTS)


def _longer_lists(acceptors, classes):
    """The lists of the sequences that one more symbol gives, for each symbol."""
    rows = [acceptor[1][state] for acceptor, state in zip(acceptors, classes)]
    return list(zip(*rows))


def _signs(acceptors, classes):
    """Which of the patterns match the sequences with this list of classes."""
    return [state in acceptor[2] for acceptor, state in zip(acceptors, classes)]


def _outputs_behind(reads, stage, before, right_signs):
    return tuple([tuple([_output(stage, before, symbol, behind) for behind in right_signs]) for symbol in reads])


def _output(stage, before, symbol, behind):
    """What the first rule puts out that applies to a symbol, given which patterns match before and behind it."""
    for number, rule in enumerate(stage):
        if before[number] and behind[number] and belongs(symbol, rule[1]):
            return rule_output(rule, symbol)
    return ()
