"""The first document at which two pipelines differ."""

from excerptcheck.cascades import pipeline_machine
from excerptcheck.kinds import kind_machine
from excerptcheck.partings import parting_among

MOST_STATES = 200


def difference(kind, first, second):
    """The first document of a kind at which two pipelines differ, with the first position; None if there is none."""
    letters, owners, _ = kind
    acceptor = kind_machine(kind)
    one = pipeline_machine(letters, owners, first)
    other = pipeline_machine(letters, owners, second)
    return parting_among(acceptor, one, other, most=MOST_STATES)
