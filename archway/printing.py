"""Written sentences: writing them."""

from archway.texts import KINDS

LETTERS = "abcdefghijklmnopqrstuvwxyz"

# How the names of lines are written that are not written as they are.
WORD_OF = {"not": "not", "denied": "not", "nothing": "empty"}


def write_sentence(names, sentence):
    """Return the written sentence, with these names of its given sets."""
    return " ".join(_words_of(names, sentence, len(sentence) - 1, len(names)))


def _words_of(names, sentence, number, sets):
    """Return the words of a line that is read with so many sets."""
    line = sentence[number]
    name = line[0]
    if name == "set":
        return ["in", _name_of(names, line[1])]
    if name in KINDS:
        return [name, str(line[1])]
    inner = sets + 1 if name == "there" else sets
    parts = [_words_of(names, sentence, part, inner) for part in line[1:]]
    if name == "there":
        return ["some", _name_of(names, sets), *parts[0]]
    if name in ("and", "both"):
        return ["(", *parts[0], "and", *parts[1], ")"]
    return [WORD_OF.get(name, name)] + [word for part in parts for word in part]


def _name_of(names, number):
    """Return the name of the set with this number."""
    if number < len(names):
        return names[number]
    wanted = [first + LETTERS[number] for first in ("s", "t", "u")]
    return [name for name in wanted if name not in names][0]
