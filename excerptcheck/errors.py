"""The errors of the package.

Every error takes its attributes under their own names, so `TooLarge(stage=1)` and `TooLarge(1)` are the same.
"""


class ExcerptError(ValueError):
    """The base class of all errors."""


class InvalidText(ExcerptError):
    """A text that does not stand for a sequence."""

    def __init__(self, place):
        super().__init__(f"no text of a sequence continues at {place}")
        self.place = place


class InvalidPattern(ExcerptError):
    """A text that is not the text of a pattern."""

    def __init__(self, place):
        super().__init__(f"no text of a pattern continues at {place}")
        self.place = place


class TooManyNodes(ExcerptError):
    """A pattern with too many nodes."""

    def __init__(self, count):
        super().__init__(f"the pattern has {count} nodes")
        self.count = count


class InvalidPipeline(ExcerptError):
    """A pipeline some of whose texts are wrong."""

    def __init__(self, errors):
        super().__init__(f"wrong texts of the pipeline: {errors}")
        self.errors = errors


class TooComplex(ExcerptError):
    """A pattern one of whose parts has too many classes."""


class NotRead(ExcerptError):
    """A symbol is put out that the next machine does not read."""

    def __init__(self, symbol):
        super().__init__(f"the symbol {symbol} is not read")
        self.symbol = symbol


class TooLarge(ExcerptError):
    """Something that is to be made would be too large."""

    def __init__(self, stage):
        super().__init__(f"too large, stage: {stage}")
        self.stage = stage


class NoDocument(ExcerptError):
    """There is no document with this index."""

    def __init__(self, many):
        super().__init__(f"there are {many} documents of this length")
        self.many = many


class NotOfKind(ExcerptError):
    """A sequence that is not a document of the kind."""


class Unknown(ExcerptError):
    """A name or a number that is not known."""

    def __init__(self, name):
        super().__init__(f"unknown: {name}")
        self.name = name


class TooMany(ExcerptError):
    """There are as many of these as there may be."""


class FeeTooLow(ExcerptError):
    """A fee that does not cover the royalties."""

    def __init__(self, document):
        super().__init__(f"the fee does not cover the royalties of {document}")
        self.document = document


class BreaksTerms(ExcerptError):
    """A contract that would be suspended at once."""

    def __init__(self, owner, document):
        super().__init__(f"the excerpt of {document} does not comply with the terms of {owner}")
        self.owner = owner
        self.document = document


class Suspended(ExcerptError):
    """A contract that is suspended."""

    def __init__(self, owner, document):
        super().__init__(f"suspended by {owner} for the excerpt of {document}")
        self.owner = owner
        self.document = document


class Finished(ExcerptError):
    """A stream that is finished already."""
