"""The notation of texts: one word for each place."""

from archway.errors import InvalidWord
from archway.texts import check_text, has_label

SIGN_OF = {"letter": "l", "call": "c", "return": "r"}
KIND_OF = {"l": "letter", "c": "call", "r": "return"}
DIGITS = "0123456789"


def format_text(text):
    """Return the written text."""
    return " ".join([f"{SIGN_OF[kind]}{label}" for kind, label in text])


def parse_text(labels, written):
    """Return the text that is written, or raise an error if it is not a text."""
    text = []
    for number, word in enumerate(_words_of(written)):
        place = _place_of(labels, word)
        if place is None:
            raise InvalidWord(number)
        text.append(place)
    check_text(labels, text)
    return text


def _words_of(written):
    """Return what stands between single spaces."""
    # The empty text has no words, but splitting an empty string gives one.
    if written == "":
        return []
    return written.split(" ")


def _place_of(labels, word):
    """Return the place that a word stands for, or None if there is none."""
    # Not isdigit, which also takes digits of other scripts.
    if len(word) != 2 or word[0] not in KIND_OF or word[1] not in DIGITS:
        return None
    place = (KIND_OF[word[0]], int(word[1]))
    return place if has_label(labels, place) else None
