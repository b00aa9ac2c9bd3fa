"""Rows of places, texts, and what is inside of them."""

from archway.errors import InvalidPlace, TextTooLong, UnbalancedText

# Labels have one number for each of these kinds, in this order.
KINDS = ("letter", "call", "return")
MOST_PLACES = 200


def fault_of(row):
    """Return the fault of a row, or None if the row is balanced."""
    opened = []
    for number, (kind, _) in enumerate(row):
        if kind == "call":
            opened.append(number)
        elif kind == "return":
            if not opened:
                return ("return", number)
            opened.pop()
    if opened:
        return ("call", opened[0])
    return None


def is_balanced(row):
    """Tell whether every return closes a call and no call is open at the end."""
    return fault_of(row) is None


def has_label(labels, place):
    """Tell whether the label of a place is one of the labels of its kind."""
    kind, label = place
    return 0 <= label < labels[KINDS.index(kind)]


def check_labels(labels, row):
    """Raise an error if a place of a row has not one of the labels."""
    for number, place in enumerate(row):
        if not has_label(labels, place):
            raise InvalidPlace(number)


def check_text(labels, row):
    """Raise an error if a row is not a text with these labels."""
    check_labels(labels, row)
    fault = fault_of(row)
    if fault is not None:
        raise UnbalancedText(fault[1])
    if len(row) > MOST_PLACES:
        raise TextTooLong(f"a text has at most {MOST_PLACES} places")


def arches(text):
    """Return the pairs of a call and its return, in ascending order of the calls."""
    opened = []
    found = []
    for number, (kind, _) in enumerate(text):
        if kind == "call":
            opened.append(number)
        elif kind == "return":
            found.append((opened.pop(), number))
    # Arches are found in the order of their returns.
    return sorted(found)


def depths(text):
    """Return the number of arches around each place."""
    depth = 0
    found = []
    for kind, _ in text:
        # A return has left its own arch, and a call is not yet in its own.
        if kind == "return":
            depth -= 1
        found.append(depth)
        if kind == "call":
            depth += 1
    return found


def children_of(text):
    """Return the letters and arches of depth 0, each arch with its own children."""
    around = []
    children = []
    for kind, label in text:
        if kind == "letter":
            children.append(("letter", label))
        elif kind == "call":
            around.append((label, children))
            children = []
        else:
            call_label, outer = around.pop()
            outer.append(("arch", call_label, label, children))
            children = outer
    return children


def row_of(children):
    """Return the text whose children these are."""
    row = []
    # What is still to be written, the next one last: letters, arches, and the
    # returns of the arches that are open. So deep texts need no deep recursion.
    waiting = children[::-1]
    while waiting:
        part = waiting.pop()
        if part[0] == "arch":
            _, call_label, return_label, inside = part
            row.append(("call", call_label))
            waiting.append(("return", return_label))
            waiting.extend(inside[::-1])
        else:
            row.append(part)
    return row
