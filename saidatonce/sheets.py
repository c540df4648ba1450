"""Sheets: what has been said, and for what a desk has promised that it can go on."""

from saidatonce.errors import Refused
from saidatonce.held import are_held
from saidatonce.tables import Table
from saidatonce.times import are_batches, are_times, nothing_said


class Sheet:
    """A table, times of it, and the batches that are promised."""

    def __init__(self, table, times, batches):
        self.table = table
        self.times = times
        self.batches = batches

    def __eq__(self, other):
        if not isinstance(other, Sheet):
            return False
        return self.table == other.table and self.times == other.times and self.batches == other.batches


def is_sheet(value):
    """Whether any value is an open sheet."""
    if not isinstance(value, Sheet) or not isinstance(value.table, Table):
        return False
    if not are_times(value.table, value.times) or not are_batches(value.batches):
        return False
    return are_held(value.table, value.times, value.batches)


def new_sheet(table, batches):
    """The open sheet on which nothing has come."""
    sheet = Sheet(table, nothing_said(table), batches)
    if not is_sheet(sheet):
        raise Refused("batches")
    return sheet
