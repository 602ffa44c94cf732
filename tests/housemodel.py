"""A clearing house word by word, for kinds all documents of which are short, and with errors as values.

Nothing here uses the program. A result is `("done", value)` or `("error", name, attributes)`.
"""

import functools

from oracles import excerpt_told
from pipes import FOURTH, LARGE, complies_told, symbols_of
from samples import fits, sequences

LONGEST = 3


@functools.cache
def documents_of(pattern, reads):
    return [found for found in sequences(reads, LONGEST) if fits(pattern, found)]


@functools.cache
def excerpts_of(pipeline, pattern, reads):
    """The documents with their excerpts."""
    return [(document, excerpt_told(pipeline, document)) for document in documents_of(pattern, reads)]


@functools.cache
def first_breaking(policy, pipeline, pattern, reads):
    """The first document whose excerpt does not comply with a policy, None if there is none."""
    for document, pairs in excerpts_of(pipeline, pattern, reads):
        if not complies_told(policy, symbols_of(pairs)):
            return document
    return None


class Refused(Exception):
    def __init__(self, error, /, **attributes):
        super().__init__(error)
        self.error = error
        self.attributes = attributes


class Model:
    def __init__(self, letters, rates):
        self.letters, self.rates = letters, dict(rates)
        self.reads = tuple(owner + letter for owner in self.rates for letter in letters)
        self.kinds, self.pipelines, self.contracts, self.log = [], [], [], []
        self.terms = {owner: ("share", owner, 0, 1) for owner in self.rates}
        self.fees = self.balance = 0
        self.owed = {owner: 0 for owner in self.rates}
        self.paid = {owner: 0 for owner in self.rates}
        self.earlier = []

    def kept(self):
        """A copy of all that a command can change."""
        return {name: [row.copy() for row in value] if name == "contracts" else
                value.copy() if isinstance(value, (list, dict)) else value for name, value in self.__dict__.items()}

    def execute(self, command):
        before = self.kept()
        try:
            value = getattr(self, "do_" + command[0])(*command[1:])
        except Refused as refused:
            self.__dict__.update(before)
            return ("error", refused.error, refused.attributes)
        self.log.append(command)
        self.earlier.append(before)
        return ("done", value)

    def undo(self):
        if not self.earlier:
            return False
        self.__dict__.update(self.earlier[-1])
        return True

    def excerpts(self, pipeline, kind):
        return excerpts_of(self.pipelines[pipeline], self.kinds[kind], self.reads)

    def royalties(self, pairs):
        return sum(self.rates.get(symbol[0], 0) for symbol, _ in pairs)

    def greatest_royalties(self, pipeline, kind):
        return max([self.royalties(pairs) for _, pairs in self.excerpts(pipeline, kind)], default=0)

    def suspension(self, pipeline, kind):
        for owner, policy in sorted(self.terms.items()):
            document = first_breaking(policy, self.pipelines[pipeline], self.kinds[kind], self.reads)
            if document is not None:
                return (owner, document)
        return None

    def suspended(self):
        return tuple(number for number, row in enumerate(self.contracts) if self.suspension(row[0], row[1]) is not None)

    def do_kind(self, pattern):
        if pattern == FOURTH:
            raise Refused("TooComplex")
        if len(self.kinds) == 4:
            raise Refused("TooMany")
        self.kinds.append(pattern)
        return len(self.kinds) - 1

    def do_pipeline(self, pipeline):
        for number, stage in enumerate(pipeline):
            if stage == LARGE:
                raise Refused("TooLarge", stage=number)
        if len(self.pipelines) == 4:
            raise Refused("TooMany")
        self.pipelines.append(pipeline)
        return len(self.pipelines) - 1

    def do_consent(self, owner, policy):
        if owner not in self.rates:
            raise Refused("Unknown", name=owner)
        if policy == ("matches", FOURTH):
            raise Refused("TooComplex")
        self.terms[owner] = policy
        return self.suspended()

    def do_withdraw(self, owner):
        return self.do_consent(owner, ("share", owner, 0, 1))

    def do_contract(self, pipeline, kind, fee):
        self.check("pipeline", pipeline, self.pipelines)
        self.check("kind", kind, self.kinds)
        if len(self.contracts) == 8:
            raise Refused("TooMany")
        for document, pairs in self.excerpts(pipeline, kind):
            if self.royalties(pairs) > fee:
                raise Refused("FeeTooLow", document=document)
        suspension = self.suspension(pipeline, kind)
        if suspension is not None:
            raise Refused("BreaksTerms", owner=suspension[0], document=suspension[1])
        self.contracts.append([pipeline, kind, fee, 0])
        return len(self.contracts) - 1

    def do_deliver(self, number, document):
        self.check("contract", number, self.contracts)
        pipeline, kind, fee, _ = self.contracts[number]
        suspension = self.suspension(pipeline, kind)
        if suspension is not None:
            raise Refused("Suspended", owner=suspension[0], document=suspension[1])
        told = dict(self.excerpts(pipeline, kind))
        if document not in told:
            raise Refused("NotOfKind")
        found = told[document]
        self.fees += fee
        self.balance += fee
        for symbol, _ in found:
            if symbol[0] != "@":
                self.balance -= self.rates[symbol[0]]
                self.owed[symbol[0]] += self.rates[symbol[0]]
        self.contracts[number][3] += 1
        return found

    def do_settle(self, owner):
        if owner not in self.rates:
            raise Refused("Unknown", name=owner)
        amount, self.owed[owner] = self.owed[owner], 0
        self.paid[owner] += amount
        return amount

    def check(self, name, number, row):
        if number not in range(len(row)):
            raise Refused("Unknown", name=name)

    def accounts(self):
        return (self.fees, self.balance, tuple(sorted(self.owed.items())), tuple(sorted(self.paid.items())))

    def contract(self, number):
        pipeline, kind, fee, delivered = self.contracts[number]
        return (pipeline, kind, fee, delivered, self.suspension(pipeline, kind))
