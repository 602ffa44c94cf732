"""Two-way machines: `(reads, left, right, outputs)`."""


def run(machine, sequence):
    """The pairs of a symbol that is put out and the position for which it is put out."""
    return paired(outputs_along(machine, sequence))


def left_states(machine, sequence):
    """The left states of all beginnings of a sequence, from the empty one to the whole sequence."""
    return lefts_from(machine, 0, sequence)


def right_states(machine, sequence):
    """The right states of all ends of a sequence, from the whole sequence to the empty one."""
    return rights_before(machine, 0, sequence)


def identity(reads):
    """The least form of the machine that puts out every symbol itself, and nothing else."""
    stay = ((0,) * len(reads),)
    return reads, stay, stay, (tuple([((symbol,),) for symbol in reads]),)


def paired(outputs):
    """The pairs of a symbol of the outputs and the position of its output."""
    return tuple([(symbol, origin) for origin, output in enumerate(outputs) for symbol in output])


def lefts_from(machine, state, sequence):
    """The left states behind all beginnings of a sequence that stands behind a given left state."""
    reads, left, _, _ = machine
    states = [state]
    for symbol in sequence:
        states.append(left[states[-1]][reads.index(symbol)])
    return tuple(states)


def rights_before(machine, state, sequence):
    """The right states of all ends of a sequence that stands before a given right state."""
    reads, _, right, _ = machine
    states = [state]
    for symbol in reversed(sequence):
        states.append(right[states[-1]][reads.index(symbol)])
    return tuple(states[::-1])


def outputs_along(machine, sequence):
    """What a machine puts out for each position of a sequence."""
    return outputs_between(machine, 0, sequence, 0)


def outputs_between(machine, before, sequence, behind):
    """The outputs for a sequence that stands behind the left state `before` and before the right state `behind`."""
    reads, _, _, outputs = machine
    lefts = lefts_from(machine, before, sequence)
    rights = rights_before(machine, behind, sequence)
    return tuple([outputs[lefts[at]][reads.index(symbol)][rights[at + 1]] for at, symbol in enumerate(sequence)])
