"""View rows, records and lists of records, and which values are none."""

from fieldoffers.errors import BadViews
from fieldoffers.keys import is_row
from fieldoffers.words import is_text

ROW_VIEWS = 40
LIST_RECORDS = 12


def is_view(value, sight):
    """Tell whether a value is a view of a sight."""
    if sight == 1:
        return is_text(value)
    if not isinstance(value, tuple) or len(value) != 3:
        return False
    return all([is_text(text) for text in value])


def is_view_row(value, sight):
    """Tell whether a value is a view row of a sight: a list of at most 40 views."""
    if not isinstance(value, list) or len(value) > ROW_VIEWS:
        return False
    return all([is_view(view, sight) for view in value])


def is_record(value, sight):
    """Tell whether a value is a record of a sight: a row, and as many views."""
    if not isinstance(value, tuple) or len(value) != 2:
        return False
    row, views = value
    return is_row(row) and is_view_row(views, sight) and len(row) == len(views)


def check_views(views, sight):
    """Raise BadViews if a value is not a view row of a sight."""
    if not is_view_row(views, sight):
        raise BadViews("a view row is a list of at most 40 views of the sight")


def check_record(record, sight):
    """Raise BadViews if a value is not a record of a sight."""
    if not is_record(record, sight):
        raise BadViews("a record is a tuple of a row and a view row of as many views")


def check_records(records, sight):
    """Raise BadViews if a value is not a list of 1 to 12 records of a sight."""
    if not isinstance(records, list) or not 1 <= len(records) <= LIST_RECORDS:
        raise BadViews("a list of records holds 1 to 12 records")
    for record in records:
        check_record(record, sight)
