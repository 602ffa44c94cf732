"""Acceptors, two-way machines, stages and graphs, word by word as the document says them, and random ones.

Nothing here uses the program.
"""

import itertools

from samples import fits, members, sequences

SEVERAL = ("@a", "@b", "@c", "Aa", "Ab", "Ac", "Ba", "Bb", "Bc", "Ca", "Cb", "Cc")


def state_after(acceptor, sequence):
    reads, rows, _ = acceptor
    state = 0
    for symbol in sequence:
        state = rows[state][reads.index(symbol)]
    return state


def takes(acceptor, sequence):
    return state_after(acceptor, sequence) in acceptor[2]


def firsts_of(rows):
    """The first sequence of each state to which one leads, as a tuple of indices of symbols."""
    found = {0: ()}
    layer = [()]
    while layer:
        longer = []
        for word in layer:
            for index in range(len(rows[0])):
                state = rows[found_state(rows, word)][index]
                if state not in found:
                    found[state] = word + (index,)
                    longer.append(word + (index,))
        layer = longer
    return found


def found_state(rows, word):
    state = 0
    for index in word:
        state = rows[state][index]
    return state


def told_apart(rows, marks):
    """The pairs of states that some sequence leads to different marks, by adding pairs until none is added."""
    pairs = {(one, other) for one in range(len(rows)) for other in range(one) if marks[one] != marks[other]}
    grown = True
    while grown:
        grown = False
        for one in range(len(rows)):
            for other in range(one):
                if (one, other) not in pairs:
                    after = {(max(pair), min(pair)) for pair in zip(rows[one], rows[other])}
                    if after & pairs:
                        pairs.add((one, other))
                        grown = True
    return pairs


def has_only_needed_states(rows, marks):
    """Every state is met, the states are in the order of their first sequences, and no two of them are alike."""
    firsts = firsts_of(rows)
    words = [firsts.get(state) for state in range(len(rows))]
    if None in words or words != sorted(words, key=lambda word: (len(word), word)):
        return False
    return len(told_apart(rows, marks)) == len(rows) * (len(rows) - 1) // 2


def is_least(acceptor):
    """Whether an acceptor is a least one, by the definition."""
    _, rows, accepting = acceptor
    return has_only_needed_states(rows, [state in accepting for state in range(len(rows))])


def random_acceptor(dice, reads, states, share=0.5):
    rows = tuple(tuple(dice.randrange(states) for _ in reads) for _ in range(states))
    accepting = tuple(state for state in range(states) if dice.random() < share)
    return (reads, rows, accepting)


def blown_up(dice, acceptor, states):
    """An acceptor with so many states that accepts the same: states occur several times, in any order."""
    reads, rows, accepting = acceptor
    origins = [0] + [dice.randrange(len(rows)) for _ in range(states - len(rows))]
    origins += list(range(1, len(rows)))
    rest = origins[1:]
    dice.shuffle(rest)
    origins = [0] + rest
    places = {state: [at for at, origin in enumerate(origins) if origin == state] for state in range(len(rows))}
    wide = tuple(tuple(dice.choice(places[after]) for after in rows[origin]) for origin in origins)
    return (reads, wide, tuple(at for at, origin in enumerate(origins) if origin in accepting))


def put_out(machine, sequence):
    """What a two-way machine puts out for each position, from the beginning and the end of the sequence anew."""
    reads, left, right, outputs = machine
    found = []
    for at, symbol in enumerate(sequence):
        before = 0
        for earlier in sequence[:at]:
            before = left[before][reads.index(earlier)]
        behind = 0
        for later in reversed(sequence[at + 1:]):
            behind = right[behind][reads.index(later)]
        found.append(outputs[before][reads.index(symbol)][behind])
    return tuple(found)


def pairs_of(outputs):
    return tuple((symbol, origin) for origin, output in enumerate(outputs) for symbol in output)


def is_least_form(machine):
    """Whether a two-way machine is a least form, by the definition."""
    _, left, right, outputs = machine
    left_marks = list(outputs)
    right_marks = [tuple(row[state] for rows in outputs for row in rows) for state in range(len(right))]
    # Put before the end symbol after symbol, a sequence is read in reverse order: so the mirrored order.
    return has_only_needed_states(left, left_marks) and has_only_needed_states(right, right_marks)


def random_machine(dice, reads, lefts, rights, writes=("Aa", "Ba"), most=2):
    left = tuple(tuple(dice.randrange(lefts) for _ in reads) for _ in range(lefts))
    right = tuple(tuple(dice.randrange(rights) for _ in reads) for _ in range(rights))
    outputs = tuple(tuple(tuple(random_output(dice, writes, most) for _ in range(rights)) for _ in reads)
                    for _ in range(lefts))
    return (reads, left, right, outputs)


def random_output(dice, writes, most):
    return tuple(dice.choice(writes) for _ in range(dice.randint(0, most)))


def changed(machine, before, index, behind, output):
    """The machine with another output at one place."""
    reads, left, right, outputs = machine
    rows = [[list(row) for row in part] for part in outputs]
    rows[before][index][behind] = output
    return (reads, left, right, tuple(tuple(tuple(row) for row in part) for part in rows))


def first_parting(first, second, most):
    """The first sequence of at most `most` symbols on which two machines differ, and the first such position."""
    for sequence in sequences(first[0], most):
        outputs = list(zip(put_out(first, sequence), put_out(second, sequence)))
        for position, (one, other) in enumerate(outputs):
            if one != other:
                return sequence, position
    return None


def one_behind_the_other(first, second, sequence):
    """What two machines do one behind the other, as pairs of a symbol and an origin."""
    given = pairs_of(put_out(first, sequence))
    told = pairs_of(put_out(second, tuple(symbol for symbol, _ in given)))
    return tuple((symbol, given[at][1]) for symbol, at in told)


def cycle(reads, many):
    """Rows that count symbols up to `many` and begin anew."""
    return tuple(((state + 1) % many,) * len(reads) for state in range(many))


def chain(reads, many):
    """Rows that count symbols and stay at the last of `many` states."""
    return tuple((min(state + 1, many - 1),) * len(reads) for state in range(many))


def told_by(reads, left, right, output_at):
    """The machine with these rows whose outputs are told by a function of left state, symbol and right state."""
    outputs = tuple(tuple(tuple(output_at(before, symbol, behind) for behind in range(len(right)))
                          for symbol in reads) for before in range(len(left)))
    return (reads, left, right, outputs)


def twins(first_length, second_length):
    """A row of two marks that two periods of these lengths share as long as two different ones can."""
    many = first_length + second_length - 2
    groups = list(range(many))
    for at, step in itertools.product(range(many), (first_length, second_length)):
        if at + step < many:
            old, new = groups[at + step], groups[at]
            groups = [new if group == old else group for group in groups]
    return [group == groups[0] for group in groups]


def applying_rule(stage, sequence, place):
    """The number of the first rule that applies to the symbol at a place, None if none applies."""
    for number, (before, target, after, _) in enumerate(stage):
        if (fits(before, sequence[:place]) and sequence[place] in members(target)
                and fits(after, sequence[place + 1:])):
            return number
    return None


def stage_told(stage, sequence):
    """What a stage puts out, as pairs of a symbol and a position."""
    found = []
    for place, symbol in enumerate(sequence):
        number = applying_rule(stage, sequence, place)
        if number is not None:
            found += [(symbol if sign == "$" else "@" + sign, place) for sign in stage[number][3]]
    return tuple(found)


def excerpt_told(pipeline, document):
    """The excerpt of a document, stage after stage."""
    pairs = tuple((symbol, place) for place, symbol in enumerate(document))
    for stage in pipeline:
        told = stage_told(stage, tuple(symbol for symbol, _ in pairs))
        pairs = tuple((symbol, pairs[place][1]) for symbol, place in told)
    return pairs


def graph_told(acceptor, machine, most):
    """The graph by its definition, as far as sequences of at most `most` symbols tell."""
    reads, left, right, outputs = machine
    heads = {(state_after((reads, left, ()), head), state_after(acceptor, head)): head
             for head in reversed(sequences(reads, most))}
    tails = {}
    for tail in sequences(reads, most):
        tails.setdefault(state_after((reads, right, ()), tail[::-1]), []).append(tail)
    points = sorted({(before, state, behind) for (before, state), head in heads.items() for behind in tails
                     if any(takes(acceptor, head + tail) for tail in tails[behind])})
    edges = []
    for source, (before, state, behind) in enumerate(points):
        for index, symbol in enumerate(reads):
            for target, (after, following, later) in enumerate(points):
                if (after == left[before][index] and following == acceptor[1][state][index]
                        and behind == right[later][index]):
                    edges.append((source, symbol, target, outputs[before][index][later]))
    starts = tuple(at for at, point in enumerate(points) if point[:2] == (0, 0))
    ends = tuple(at for at, point in enumerate(points) if point[2] == 0 and point[1] in acceptor[2])
    return (tuple(points), starts, ends, tuple(edges))


def complete_paths(starts, ends, edges, sequence):
    """All complete paths that read a sequence, as tuples of indices of edges."""
    paths = [(start, ()) for start in starts]
    for symbol in sequence:
        paths = [(edge[2], path + (index,)) for point, path in paths for index, edge in enumerate(edges)
                 if edge[0] == point and edge[1] == symbol]
    return [path for point, path in paths if point in ends]
