"""Fields as words of a text, and back."""

from endshare.checks import are_small_letters, check_fields
from endshare.errors import BadText

FIGURES = "0123456789"


def written(fields):
    """Tell the fields as words, name and size with a colon between."""
    check_fields(fields)
    return " ".join([f"{name}:{size}" for name, size in fields])


def read_fields(text):
    """Tell the fields that are written in the text."""
    fields = []
    for place, word in enumerate(text.split(" ")):
        name, _, size = word.partition(":")
        if not are_small_letters(name) or not _is_one_figure(size):
            raise BadText(place)
        fields.append((name, int(size)))
    check_fields(fields)
    return fields


def _is_one_figure(text):
    # Not isdigit(), which also takes figures beyond 0 to 9.
    return len(text) == 1 and text in FIGURES
