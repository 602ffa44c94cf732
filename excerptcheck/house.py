"""The clearing house: no excerpt is handed out that does not comply with the terms in force."""

from excerptcheck.books import Books, first_breach
from excerptcheck.deciding import decided, weights_under
from excerptcheck.nets import greatest_weight, net_of


class Clearinghouse:
    """Kinds, pipelines, terms, contracts and accounts that are changed by commands alone, and the log of these."""

    def __init__(self, letters, rates):
        self._books = Books(letters, rates)
        # The books as they were before each command of the log.
        self._earlier = []
        self._log = ()

    def execute(self, command):
        """Executes a command and returns its result."""
        # The command is carried out in a copy, so an error leaves everything as it was.
        books = self._books.copied()
        result = books.carry_out(command)
        self._earlier.append(self._books)
        self._books = books
        self._log = (*self._log, command)
        return result

    def undo(self):
        """Takes back the last command of the log; False if the log is empty."""
        if not self._earlier:
            return False
        self._books = self._earlier.pop()
        self._log = self._log[:-1]
        return True

    def contract(self, number):
        """`(pipeline, kind, fee, delivered, suspension)`."""
        books = self._books
        books.check_contract(number)
        return (*books.agreements[number], books.deliveries[number], books.suspension_of(number))

    def certificate(self, number, owner):
        """The canonical certificate that a contract keeps to the terms of an owner, None if it does not."""
        books = self._books
        books.check_contract(number)
        policy, acceptor = books.policies[books.place_of(owner)]
        return decided(books.graphs[number], policy, acceptor)[1]

    def least_fee(self, pipeline, kind):
        """The least fee that covers the royalties of a pipeline and a kind, None if there is none."""
        books = self._books
        books.check_numbers(pipeline, kind)
        made = books.graph_between(pipeline, kind)
        found = greatest_weight(net_of(made), weights_under(("sum", books.rates, 0), made))
        if found is None:
            return 0
        return found[1] if found[0] == "bounded" else None

    @property
    def accounts(self):
        """`(fees, balance, owed, paid)`."""
        books = self._books
        return books.fees, books.balance, tuple(zip(books.owners, books.owed)), tuple(zip(books.owners, books.paid))

    @property
    def terms(self):
        """The pairs of an owner and the policy that is in force."""
        return tuple([(owner, policy) for owner, (policy, _) in zip(self._books.owners, self._books.policies)])

    @property
    def active(self):
        """The numbers of the contracts that are not suspended."""
        return tuple([number for number, row in enumerate(self._books.breaches) if first_breach(row) is None])

    @property
    def log(self):
        """The commands that were executed without an error and not undone."""
        return self._log

    def __len__(self):
        return len(self._log)

    def __iter__(self):
        return iter(self._log)

    def __contains__(self, command):
        return command in self._log
