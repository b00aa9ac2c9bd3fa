"""What the document says of edits, in its plainest form: texts as lists, and counts by arches."""

from archway.texts import arches


def plain_edited(text, edit, *arguments):
    """Give the text that an edit makes (point 58)."""
    if edit == "insert":
        at, added = arguments
        return text[:at] + added + text[at:]
    if edit == "remove":
        start, end = arguments
        return text[:start] + text[end:]
    if edit == "surround":
        start, end, a, b = arguments
        return text[:start] + [("call", a)] + text[start:end] + [("return", b)] + text[end:]
    if edit == "dissolve":
        back = dict(arches(text))[arguments[0]]
        return [place for at, place in enumerate(text) if at not in (arguments[0], back)]
    at, a = arguments
    return text[:at] + [(text[at][0], a)] + text[at + 1:]


def arches_around(text, start, end):
    """Count the arches of which the call is ahead of a stretch and the return behind it."""
    return len([call for call, back in arches(text) if call < start and back >= end])


def plain_made(text, edit, *arguments):
    """Count the letters and arches for which an edit makes values (point 62), in the new text."""
    made = plain_edited(text, edit, *arguments)
    at = arguments[0]
    if edit == "insert":
        added = arguments[1]
        elements = [place for place in added if place[0] != "return"]
        return len(elements) + arches_around(made, at, at + len(added))
    if edit == "remove":
        return arches_around(made, at, at)
    if edit == "surround":
        return 1 + arches_around(made, at, arguments[1] + 2)
    if edit == "dissolve":
        back = dict(arches(text))[at]
        return arches_around(made, at, back - 1)
    for call, back in arches(text):
        if at in (call, back):
            return 1 + arches_around(made, call, back + 1)
    return 1 + arches_around(made, at, at + 1)


def plain_rewritten(text, places, a):
    """Give the text with the letters among these places relabelled, and the count of point 62."""
    changed = [at for at in places if text[at][0] == "letter" and text[at][1] != a]
    made = [("letter", a) if at in changed else place for at, place in enumerate(text)]
    around = [call for call, back in arches(text) if any(call < at < back for at in changed)]
    return made, len(changed) + len(around)
