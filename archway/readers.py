"""Readers: whether they fit, and the values that they give to texts."""

from archway.texts import check_labels

MOST_LABELS = 24
MOST_VALUES = 60


def fault(reader):
    """Return None if the reader fits, otherwise its fault."""
    labels, empty, letters, mul, wrap, accepted = reader
    # Each of these relies on what the ones before it have made sure of.
    return (
        _labels_fault(labels)
        or _count_fault(mul)
        or _empty_fault(empty, len(mul))
        or _letters_fault(labels, letters, len(mul))
        or _mul_fault(mul)
        or _wrap_fault(labels, wrap, len(mul))
        or _accepted_fault(accepted, len(mul))
        or _unit_fault(empty, mul)
        or _order_fault(mul)
    )


def value_behind(reader, start, text):
    """Return the value of a text with the value `start` followed by `text`."""
    labels, empty, letters, mul, wrap, _ = reader
    check_labels(labels, text)
    around = []
    found = start
    for kind, label in text:
        if kind == "letter":
            found = mul[found][letters[label]]
        elif kind == "call":
            around.append((label, found))
            found = empty
        else:
            call_label, ahead = around.pop()
            found = mul[ahead][wrap[call_label][label][found]]
    return found


def value(reader, text):
    """Return the value of a text."""
    return value_behind(reader, reader[1], text)


def accepts(reader, text):
    """Tell whether the reader accepts a text."""
    return value(reader, text) in reader[5]


def _are_values(row, many, count):
    """Tell whether a row has so many members and each is one of so many values."""
    return len(row) == many and all(0 <= member < count for member in row)


def _labels_fault(labels):
    if len(labels) == 3 and all(1 <= many <= MOST_LABELS for many in labels):
        return None
    return ("labels",)


def _count_fault(mul):
    return None if 1 <= len(mul) <= MOST_VALUES else ("values",)


def _empty_fault(empty, count):
    return None if 0 <= empty < count else ("empty",)


def _letters_fault(labels, letters, count):
    return None if _are_values(letters, labels[0], count) else ("letters",)


def _mul_fault(mul):
    for x, row in enumerate(mul):
        if not _are_values(row, len(mul), len(mul)):
            return ("mul", x)
    return None


def _wrap_fault(labels, wrap, count):
    _, calls, returns = labels
    for a, rows in enumerate(wrap[:calls]):
        b = _wrap_row_fault(rows, returns, count)
        if b is not None:
            return ("wrap", a, b)
    if len(wrap) != calls:
        return ("wrap", min(len(wrap), calls), 0)
    return None


def _wrap_row_fault(rows, returns, count):
    """Return the lowest label of returns at which a member of `wrap` is at fault, or None."""
    for b, row in enumerate(rows[:returns]):
        if not _are_values(row, count, count):
            return b
    if len(rows) != returns:
        return min(len(rows), returns)
    return None


def _accepted_fault(accepted, count):
    ascending = all([low < high for low, high in zip(accepted, accepted[1:])])
    if ascending and _are_values(accepted, len(accepted), count):
        return None
    return ("accepted",)


def _unit_fault(empty, mul):
    for x in range(len(mul)):
        if mul[empty][x] != x or mul[x][empty] != x:
            return ("unit", x)
    return None


def _order_fault(mul):
    for x, row in enumerate(mul):
        for y, both in enumerate(row):
            for z, behind in enumerate(mul[y]):
                if mul[both][z] != row[behind]:
                    return ("order", x, y, z)
    return None
