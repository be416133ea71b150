"""Findings of all parts."""

from tallyhouse.bookfindings import book_finding_holds
from tallyhouse.growthfindings import growth_finding_holds
from tallyhouse.rowfindings import row_finding_holds


def finding_holds(thing):
    """Whether any value is a finding that holds."""
    return row_finding_holds(thing) or growth_finding_holds(thing) or book_finding_holds(thing)
