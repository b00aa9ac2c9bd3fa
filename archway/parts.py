"""The lines of a sentence: with how many sets they are used, and where they are true."""

from archway.bits import is_among
from archway.marked import width
from archway.meaning import about, parts_of


def uses(sentence, given):
    """Return the used lines about a text, each with its number of sets, in ascending order."""
    counts = [{} for _ in sentence]
    counts[-1][given] = True
    # A line names only lines ahead of it: behind it, all of its own uses are known.
    for number, line in reversed(list(enumerate(sentence))):
        added = 1 if line[0] == "there" else 0
        inner = [sets + added for sets in counts[number]]
        for part in parts_of(line):
            for sets in inner:
                counts[part][sets] = True
    found = []
    for number, line in enumerate(sentence):
        if about(line) == "text":
            found.extend([(number, sets) for sets in sorted(counts[number])])
    return found


def is_true_at(sentence, line, kind, label, sets):
    """Tell whether a line is true of a place with this kind and this label, marked with so many sets."""
    return truths_at(sentence[:line + 1], (kind, label), sets)[line]


def truths_at(sentence, place, sets):
    """Return, for each line, whether it is true of a marked place; lines about a text are not."""
    kind, label = place
    plain = (kind, label // width(sets))
    code = label % width(sets)
    found = []
    # Line by line, as a line that is used very often would take too long by itself.
    for line in sentence:
        found.append(_is_true(line, plain, code, found))
    return found


def _is_true(line, place, code, ahead):
    """Tell whether a line is true of a place with this code, by the truth of the lines ahead."""
    name = line[0]
    if name == "set":
        return is_among(line[1], code)
    if name == "not":
        return not ahead[line[1]]
    if name == "and":
        return ahead[line[1]] and ahead[line[2]]
    return line == place
