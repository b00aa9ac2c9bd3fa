"""What the document says of sentences, in its plainest form, and sentences to try it on."""

from itertools import product
from random import Random

from tests.rows import plain_arches

PLACE_NAMES = ("set", "letter", "call", "return", "not", "and")


def plain_subsets(text):
    """Make every set of places of a text."""
    for chosen in product((False, True), repeat=len(text)):
        yield [place for place, is_in in enumerate(chosen) if is_in]


def plain_is_true_at(sentence, number, text, sets, place):
    """Tell whether a line about one place is true of a place (point 24)."""
    line = sentence[number]
    if line[0] == "set":
        return line[1] < len(sets) and place in sets[line[1]]
    if line[0] == "not":
        return not plain_is_true_at(sentence, line[1], text, sets, place)
    if line[0] == "and":
        return all([plain_is_true_at(sentence, part, text, sets, place) for part in line[1:]])
    return text[place] == line


def plain_holds(sentence, text, sets, number=-1):
    """Tell whether a line about a text is true (points 25 and 26)."""
    line = sentence[number]
    name = line[0]

    def at(part, place):
        return plain_is_true_at(sentence, line[part], text, sets, place)

    if name == "all":
        return all([at(1, place) for place in range(len(text))])
    if name == "next":
        return all([at(2, place + 1) for place in range(len(text) - 1) if at(1, place)])
    if name == "arch":
        return all([at(2, back) for call, back in plain_arches(text) if at(1, call)])
    if name == "first":
        return text == [] or at(1, 0)
    if name == "last":
        return text == [] or at(1, len(text) - 1)
    if name == "nothing":
        return text == []
    if name == "denied":
        return not plain_holds(sentence, text, sets, line[1])
    if name == "both":
        return plain_holds(sentence, text, sets, line[1]) and plain_holds(sentence, text, sets, line[2])
    return any([plain_holds(sentence, text, sets + [one], line[1]) for one in plain_subsets(text)])


def plain_parts(line):
    """List the line numbers in a line."""
    return [] if line[0] in ("set", "letter", "call", "return") else list(line[1:])


def plain_depth(sentence, number=-1):
    line = sentence[number]
    inside = [plain_depth(sentence, part) for part in plain_parts(line)]
    return max(inside, default=0) + (line[0] == "there")


def plain_size(sentence, number=-1):
    return 1 + sum(plain_size(sentence, part) for part in plain_parts(sentence[number]))


def has_loose_set(sentence, sets, number=-1):
    """Tell whether a set is neither given nor around somewhere."""
    line = sentence[number]
    if line[0] == "set":
        return line[1] >= sets
    return any(has_loose_set(sentence, sets + (line[0] == "there"), part) for part in plain_parts(line))


def some_sentences(labels, count, seed, most_lines=14, most_depth=2, most_size=200):
    """Make so many valid sentences of many forms, the same ones each time."""
    chance = Random(seed)
    found = []
    while len(found) < count:
        lines = []
        for number in range(chance.randrange(2, most_lines)):
            places = [at for at, line in enumerate(lines) if line[0] in PLACE_NAMES]
            texts = [at for at, line in enumerate(lines) if line[0] not in PLACE_NAMES]
            names = ["set", "set", "letter", "call", "return", "nothing"]
            if places:
                names += ["not", "and", "and", "all", "next", "next", "arch", "arch", "first", "last"]
            if texts:
                names += ["denied", "denied", "both", "both", "there", "there"]
            name = chance.choice(names)
            if name == "set":
                line = (name, chance.randrange(3))
            elif name in ("letter", "call", "return"):
                line = (name, chance.randrange(labels[("letter", "call", "return").index(name)]))
            elif name in ("not", "all", "first", "last"):
                line = (name, chance.choice(places[-3:]))
            elif name in ("and", "next", "arch"):
                line = (name, chance.choice(places[-3:]), chance.choice(places))
            elif name in ("denied", "there"):
                line = (name, chance.choice(texts[-2:]))
            elif name == "both":
                line = (name, chance.choice(texts[-2:]), chance.choice(texts))
            else:
                line = (name,)
            lines.append(line)
        if lines[-1][0] in PLACE_NAMES:
            continue
        if plain_depth(lines) <= most_depth and plain_size(lines) <= most_size:
            found.append(tuple(lines))
    return found


LANGUAGE = "some not and or implies all any next arch first last empty in letter call return".split()


class PlainReading:
    """Read a written sentence part by part, as points 29 to 31 say it."""

    def __init__(self, labels, names, written):
        self.words = [word for word in written.split(" ") if word != ""]
        self.labels = labels
        self.at = 0
        self.lines = []
        self.most_sets = len(names)
        self.failed = None
        try:
            self.statement(list(names))
            if self.at < len(self.words):
                self.fail()
        except IndexError:
            self.failed = self.at

    def fail(self):
        raise IndexError

    def word(self, allowed=None):
        """Take the next word, which is one of those allowed."""
        word = self.words[self.at]
        if allowed is not None and word not in allowed:
            self.fail()
        self.at += 1
        return word

    def line(self, *parts):
        self.lines.append(parts)
        return len(self.lines) - 1

    def joined(self, names, read, words):
        """Read what stands between brackets; `words` are the names of "not" and "and" here."""
        negation, conjunction = words
        first = read(names)
        sign = self.word(("and", "or", "implies") if negation == "denied" else ("and", "or"))
        if sign == "or":
            first = self.line(negation, first)
        second = read(names)
        self.word((")",))
        if sign != "and":
            second = self.line(negation, second)
        found = self.line(conjunction, first, second)
        return found if sign == "and" else self.line(negation, found)

    def statement(self, names):
        word = self.word(("some", "not", "(", "all", "any", "next", "arch", "first", "last", "empty"))
        if word == "some":
            name = self.words[self.at]
            if name in LANGUAGE or not 1 <= len(name) <= 8 or name.strip("abcdefghijklmnopqrstuvwxyz"):
                self.fail()
            self.at += 1
            self.most_sets = max(self.most_sets, len(names) + 1)
            return self.line("there", self.statement(names + [name]))
        if word == "not":
            return self.line("denied", self.statement(names))
        if word == "(":
            return self.joined(names, self.statement, ("denied", "both"))
        if word == "any":
            return self.line("denied", self.line("all", self.line("not", self.place(names))))
        if word == "empty":
            return self.line("nothing")
        if word in ("next", "arch"):
            return self.line(word, self.place(names), self.place(names))
        return self.line(word, self.place(names))

    def place(self, names):
        word = self.word(("in", "letter", "call", "return", "not", "("))
        if word == "in":
            name = self.word(names)
            return self.line("set", len(names) - 1 - names[::-1].index(name))
        if word == "not":
            return self.line("not", self.place(names))
        if word == "(":
            return self.joined(names, self.place, ("not", "and"))
        many = self.labels[("letter", "call", "return").index(word)]
        return self.line(word, int(self.word([str(label) for label in range(many)])))


def some_written(labels, names, count, seed, most_deep=5):
    """Make so many written sentences, the same ones each time."""
    chance = Random(seed)

    def place(names, deep):
        signs = ["letter", "call", "return"] + (["in"] * 3 if names else [])
        signs += ["not", "and", "or"] if deep else []
        sign = chance.choice(signs)
        if sign == "in":
            return f"in {chance.choice(names)}"
        if sign == "not":
            return f"not {place(names, deep - 1)}"
        if sign in ("and", "or"):
            return f"( {place(names, deep - 1)} {sign} {place(names, deep - 1)} )"
        return f"{sign} {chance.randrange(labels[('letter', 'call', 'return').index(sign)])}"

    def statement(names, deep):
        signs = ["all", "any", "next", "arch", "first", "last", "empty"]
        signs += ["some", "some", "not", "and", "or", "implies"] if deep else []
        sign = chance.choice(signs)
        if sign == "empty":
            return sign
        if sign == "some":
            name = chance.choice(["x", "y", "z", "place", "ab"])
            return f"some {name} {statement(names + [name], deep - 1)}"
        if sign == "not":
            return f"not {statement(names, deep - 1)}"
        if sign in ("and", "or", "implies"):
            return f"( {statement(names, deep - 1)} {sign} {statement(names, deep - 1)} )"
        if sign in ("next", "arch"):
            return f"{sign} {place(names, 2)} {place(names, 2)}"
        return f"{sign} {place(names, 2)}"

    return [statement(names, chance.randrange(most_deep + 1)) for _ in range(count)]


def rich_sentences(labels, count, seed, most_texts=5, most_depth=3):
    """Make so many sentences that say several things of sets and labels, the same ones each time."""
    chance = Random(seed)
    places = [("set", 0), ("set", 1), ("set", 2), ("letter", 0), ("call", 0), ("return", labels[2] - 1)]
    places += [("not", number) for number in range(6)]
    found = []
    while len(found) < count:
        lines = places + [("and", chance.randrange(12), chance.randrange(12)) for _ in range(2)]
        free = []
        for _ in range(chance.randint(1, most_texts)):
            name = chance.choice(["next", "next", "arch", "arch", "first", "last", "all", "nothing"])
            many = {"next": 2, "arch": 2, "nothing": 0}.get(name, 1)
            free.append(len(lines))
            lines.append((name, *[chance.randrange(14) for _ in range(many)]))
        while len(free) > 1 or chance.random() < 0.6:
            name = chance.choice(["both", "both", "denied", "there"])
            parts = [free.pop(chance.randrange(len(free))) for _ in range(1 + (name == "both" and len(free) > 1))]
            if name == "both" and len(parts) == 1:
                parts = parts * 2
            free.append(len(lines))
            lines.append((name, *parts))
        if len(lines) <= 60 and plain_depth(lines) <= most_depth and plain_size(lines) <= 200:
            found.append(tuple(lines))
    return found
