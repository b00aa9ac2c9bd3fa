"""Readers and sentences for the tests.

All readers fit; the comments say what their values stand for.
"""

from itertools import product

# How many letters there are, even or odd (the first example of the document).
PARITY = ((1, 1, 1), 0, (1,), ((0, 1), (1, 0)), (((0, 1),),), (0,))

# Whether there is an arch, and one in another one.
DEPTH = ((1, 1, 1), 0, (0,), ((0, 1, 2), (1, 1, 2), (2, 2, 2)), (((1, 2, 2),),), (2,))

# The unit is the last value, and no text has value 1.
UNIT_LAST = ((1, 1, 1), 2, (0,), ((0, 1, 0), (1, 1, 1), (0, 1, 2)), (((0, 1, 0),),), (0,))

# All texts have the one value.
ONE_VALUE = ((2, 1, 3), 0, (0, 0), ((0,),), (((0,), (0,), (0,)),), (0,))

# The same without an accepted value.
NOTHING = ((2, 1, 3), 0, (0, 0), ((0,),), (((0,), (0,), (0,)),), ())


def cyclic(count, accepted, labels=(1, 1, 1), by_arch=0):
    """The number of letters, modulo `count`; an arch adds `by_arch` and its labels to it."""
    numbers = range(count)
    mul = tuple(tuple((x + y) % count for y in numbers) for x in numbers)
    wrap = tuple(
        tuple(tuple((x + by_arch + a + b) % count for x in numbers) for b in range(labels[2]))
        for a in range(labels[1])
    )
    letters = tuple((a + 1) % count for a in range(labels[0]))
    return (labels, 0, letters, mul, wrap, tuple(accepted))


def cyclic_flat(count, accepted):
    """The number of letters, modulo `count`, or that there is an arch (the value `count`)."""
    numbers = range(count + 1)
    mul = tuple(
        tuple((x + y) % count if max(x, y) < count else count for y in numbers) for x in numbers
    )
    return ((1, 1, 1), 0, (1 % count,), mul, (((count,) * (count + 1),),), tuple(accepted))


def maps(size, letters, around, accepted):
    """All maps of the numbers below `size`, one behind the other; a letter is a map.

    `around(a, b, map)` is the map of an arch, and `accepted(map)` tells whether it is accepted.
    `around` has the attribute `labels`: how many labels calls and returns have.
    """
    found = list(product(range(size), repeat=size))
    number = {one: at for at, one in enumerate(found)}
    calls, returns = around.labels
    mul = tuple(tuple(number[tuple(y[p] for p in x)] for y in found) for x in found)
    wrap = tuple(
        tuple(tuple(number[around(a, b, x)] for x in found) for b in range(returns))
        for a in range(calls)
    )
    return (
        (len(letters), calls, returns),
        number[tuple(range(size))],
        tuple(number[one] for one in letters),
        mul,
        wrap,
        tuple(at for at, one in enumerate(found) if accepted(one)),
    )


def turned(a, b, one):
    """An arch turns the numbers of a map around, and shifts them by its labels."""
    return tuple((number + a + 2 * b) % len(one) for number in reversed(one))


def always_first(a, b, one):
    """An arch leads all numbers to where the first one leads, or to its label."""
    return (one[0] if b == 0 else a % len(one),) * len(one)


turned.labels = (2, 2)
always_first.labels = (2, 3)

# The order of the letters matters in these.
FLIPS = maps(2, [(1, 0), (0, 0)], turned, lambda one: one[0] == 1)
RESETS = maps(2, [(1, 1), (0, 0)], always_first, lambda one: one[1] == 0)
TURNS = maps(3, [(1, 2, 0), (1, 1, 2)], turned, lambda one: one[0] == 2)
FALLS = maps(3, [(0, 0, 1), (2, 1, 0)], always_first, lambda one: sum(one) == 4)
SHIFTS = maps(3, [(1, 2, 0), (2, 1, 0), (1, 2, 0)], turned, lambda one: one in ((1, 0, 2), (0, 1, 2)))


def ruled(letters, products, arches, accepted):
    """A reader of a few texts. Its values are the empty text, "dead" and the names in the rules.

    `letters` names the value of each letter, `products` maps pairs of names to a name, `arches`
    maps a call label, a return label and a name to a name; all else is dead. The empty text is
    called "". No name of a product may be part of another one, so that the order does not matter.
    """
    names = ["", "dead"]
    for name in list(letters) + list(products.values()) + list(arches.values()):
        if name not in names:
            names.append(name)
    number = {name: at for at, name in enumerate(names)}

    def mul(x, y):
        return x + y if "" in (x, y) else products.get((x, y), "dead")

    calls = 1 + max([a for a, _, _ in arches], default=0)
    returns = 1 + max([b for _, b, _ in arches], default=0)
    wrap = tuple(
        tuple(tuple(number[arches.get((a, b, x), "dead")] for x in names) for b in range(returns))
        for a in range(calls)
    )
    return (
        (len(letters), calls, returns),
        0,
        tuple(number[name] for name in letters),
        tuple(tuple(number[mul(x, y)] for y in names) for x in names),
        wrap,
        tuple(sorted(number[name] for name in accepted)),
    )


def trees(accepted):
    """Full binary trees of arches, the heights 0 to 6, and each height twice side by side.

    The least lengths of t0 to t6 are 2, 6, 14, 30, 62, 126 and 254; those of two trees twice that.
    """
    products = {(f"t{height}", f"t{height}"): f"d{height}" for height in range(6)}
    arches = {(0, 0, f"d{height}"): f"t{height + 1}" for height in range(6)}
    arches[(0, 0, "")] = "t0"
    return ruled(["dead"], products, arches, accepted)


def long_chain(accepted, letters=("l",), more=None):
    """Values with the least lengths 126 + 62 = 188 and, by arches, 190 up to 204 (a0 to a8).

    The value "odd" is a letter behind a5 (198 + 1 = 199), "edge" is one behind a6 (200 + 1).
    There may be more letters and products.
    """
    products = {(f"t{height}", f"t{height}"): f"d{height}" for height in range(5)}
    products.update({("t5", "t4"): "a0", ("a5", "l"): "odd", ("a6", "l"): "edge"})
    products.update(more or {})
    arches = {(0, 0, f"d{height}"): f"t{height + 1}" for height in range(5)}
    arches.update({(0, 0, f"a{number}"): f"a{number + 1}" for number in range(8)})
    arches[(0, 0, "")] = "t0"
    return ruled(letters, products, arches, accepted)


SMALL = (PARITY, DEPTH, UNIT_LAST, ONE_VALUE, NOTHING, FLIPS, RESETS)
ALL = SMALL + (TURNS, FALLS, SHIFTS)

# Sentences with so many values in the last line, and at most 60 in the others: labels, given
# names, the written sentence and the number of values.
EDGES = (
    ((2, 1, 1), ["x", "y"], "some z ( next return 0 ( in x and not in z ) and next not in z in x )", 60),
    (
        (2, 1, 1), ["x", "y"],
        "some z ( next not in z in y and next ( not in z and not call 0 ) not in z )", 61,
    ),
    (
        (2, 1, 1), ["x", "y"],
        "( some z ( next letter 0 in z and next in z ( in z and not in x ) ) and not arch in y not in x )", 60,
    ),
    (
        (2, 1, 2), ["x", "y", "z"],
        "( ( next call 0 not in y and next not in z not in z ) and not next in y letter 0 )", 61,
    ),
)
# This has more than 60 values with one set, and 3 without.
LARGE = (
    "( ( next in x in x and next in x not in x ) and "
    "( ( next not in x in x and next not in x not in x ) and ( arch in x in x and arch in x not in x ) ) )"
)
