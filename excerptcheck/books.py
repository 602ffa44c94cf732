"""The books of a clearing house: what was added, which terms are in force, what was agreed, and the amounts."""

from excerptcheck.cascades import pipeline_machine
from excerptcheck.deciding import decided, policy_machine
from excerptcheck.errors import BreaksTerms, FeeTooLow, NotOfKind, Suspended, TooMany, Unknown
from excerptcheck.graphs import graph_of
from excerptcheck.kinds import kind_machine, of_kind
from excerptcheck.twoway import run

MOST_KINDS = 4
MOST_PIPELINES = 4
MOST_CONTRACTS = 8


class Books:
    """All that a clearing house keeps but its log.

    Every attribute is a number or a tuple, so a copy of the books stays as it is whatever happens to the books.
    Books in which a command raised an error are not to be used any further.
    """

    def __init__(self, letters, rates):
        self.letters = letters
        self.rates = rates
        self.owners = tuple([owner for owner, _ in rates])
        # A kind with its machine, the machine of a pipeline.
        self.kinds = ()
        self.machines = ()
        # For each owner the policy with its machine.
        self.policies = tuple([(_nothing_of(owner), None) for owner in self.owners])
        # For each contract (pipeline, kind, fee), the deliveries, the graph, and for each owner what breaks the terms.
        self.agreements = ()
        self.deliveries = ()
        self.graphs = ()
        self.breaches = ()
        self.fees = 0
        self.balance = 0
        self.owed = (0,) * len(rates)
        self.paid = (0,) * len(rates)

    def copied(self):
        """Books of their own with all that stands in these."""
        books = Books(self.letters, self.rates)
        books.kinds = self.kinds
        books.machines = self.machines
        books.policies = self.policies
        books.agreements = self.agreements
        books.deliveries = self.deliveries
        books.graphs = self.graphs
        books.breaches = self.breaches
        books.fees = self.fees
        books.balance = self.balance
        books.owed = self.owed
        books.paid = self.paid
        return books

    def carry_out(self, command):
        """Executes a command and returns its result."""
        match command:
            case ("kind", pattern):
                return self._add_kind(pattern)
            case ("pipeline", pipeline):
                return self._add_pipeline(pipeline)
            case ("consent", owner, policy):
                return self._set_terms(owner, policy)
            case ("withdraw", owner):
                return self._set_terms(owner, _nothing_of(owner))
            case ("contract", pipeline, kind, fee):
                return self._add_contract(pipeline, kind, fee)
            case ("deliver", number, document):
                return self._deliver(number, document)
            case ("settle", owner):
                return self._settle(owner)

    def place_of(self, owner):
        """The place of an owner among the owners of the house."""
        if owner not in self.owners:
            raise Unknown(owner)
        return self.owners.index(owner)

    def check_contract(self, number):
        """Raises an error if there is no contract with this number."""
        _check_number("contract", number, self.agreements)

    def check_numbers(self, pipeline, kind):
        """Raises an error if there is no pipeline, or no kind, with this number."""
        _check_number("pipeline", pipeline, self.machines)
        _check_number("kind", kind, self.kinds)

    def graph_between(self, pipeline, kind):
        """The graph of the kind and the pipeline with these numbers."""
        return graph_of(self.kinds[kind][1], self.machines[pipeline])

    def suspension_of(self, number):
        """The first owner whose terms a contract breaks, and the first such document; None if it breaks none."""
        return first_breach(self.breaches[number])

    def _add_kind(self, pattern):
        kind = (self.letters, "".join(self.owners), pattern)
        acceptor = kind_machine(kind)
        if len(self.kinds) >= MOST_KINDS:
            raise TooMany("there are as many kinds as there may be")
        self.kinds = (*self.kinds, (kind, acceptor))
        return len(self.kinds) - 1

    def _add_pipeline(self, pipeline):
        machine = pipeline_machine(self.letters, "".join(self.owners), pipeline)
        if len(self.machines) >= MOST_PIPELINES:
            raise TooMany("there are as many pipelines as there may be")
        self.machines = (*self.machines, machine)
        return len(self.machines) - 1

    def _set_terms(self, owner, policy):
        place = self.place_of(owner)
        terms = (policy, policy_machine(self.letters, "".join(self.owners), policy))
        self.policies = _replaced(self.policies, place, terms)
        self.breaches = tuple([_replaced(row, place, _breach(made, owner, terms))
                               for row, made in zip(self.breaches, self.graphs)])
        return tuple([number for number, row in enumerate(self.breaches) if first_breach(row) is not None])

    def _add_contract(self, pipeline, kind, fee):
        self.check_numbers(pipeline, kind)
        if len(self.agreements) >= MOST_CONTRACTS:
            raise TooMany("there are as many contracts as there may be")
        made = self.graph_between(pipeline, kind)
        covered, _, document = decided(made, ("sum", self.rates, fee), None)
        if not covered:
            raise FeeTooLow(document)
        breaches = tuple([_breach(made, owner, terms) for owner, terms in zip(self.owners, self.policies)])
        suspension = first_breach(breaches)
        if suspension is not None:
            raise BreaksTerms(suspension[0], suspension[1])
        self.agreements = (*self.agreements, (pipeline, kind, fee))
        self.deliveries = (*self.deliveries, 0)
        self.graphs = (*self.graphs, made)
        self.breaches = (*self.breaches, breaches)
        return len(self.agreements) - 1

    def _deliver(self, number, document):
        self.check_contract(number)
        suspension = self.suspension_of(number)
        if suspension is not None:
            raise Suspended(suspension[0], suspension[1])
        pipeline, kind, fee = self.agreements[number]
        if not of_kind(self.kinds[kind][0], document):
            raise NotOfKind("the sequence is not a document of the kind")
        found = run(self.machines[pipeline], document)
        amounts = [rate * len([symbol for symbol, _ in found if symbol[0] == owner]) for owner, rate in self.rates]
        self.fees += fee
        self.balance += fee - sum(amounts)
        self.owed = tuple([before + amount for before, amount in zip(self.owed, amounts)])
        self.deliveries = _replaced(self.deliveries, number, self.deliveries[number] + 1)
        return found

    def _settle(self, owner):
        place = self.place_of(owner)
        amount = self.owed[place]
        self.owed = _replaced(self.owed, place, 0)
        self.paid = _replaced(self.paid, place, self.paid[place] + amount)
        return amount


def first_breach(breaches):
    """The first of the breaches of terms, one for each owner; None if there is none."""
    for breach in breaches:
        if breach is not None:
            return breach
    return None


def _breach(made, owner, terms):
    """The owner and the first document of a graph whose excerpt breaks these terms, None if there is none."""
    complying, _, document = decided(made, terms[0], terms[1])
    return None if complying else (owner, document)


def _nothing_of(owner):
    """The terms of an owner who has not consented."""
    return "share", owner, 0, 1


def _replaced(row, place, value):
    return (*row[:place], value, *row[place + 1:])


def _check_number(name, number, row):
    if not 0 <= number < len(row):
        raise Unknown(name)
