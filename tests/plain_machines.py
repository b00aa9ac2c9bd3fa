"""What the document says of machines, in its plainest form, and machines to try it on."""

from random import Random

from tests.plain import plain_numbered
from tests.rows import plain_arches


def plain_configurations(machine, row):
    """List the configurations after each number of places (points 47 and 48), trying every step."""
    _, firsts, letters, calls, returns, _ = machine
    now = {(state, ()) for state in firsts}
    found = [sorted(now)]
    for kind, label in row:
        after = set()
        for state, signs in now:
            if kind == "letter":
                after |= {(q, signs) for p, a, q in letters if (p, a) == (state, label)}
            elif kind == "call":
                after |= {(q, signs + (sign,)) for p, a, q, sign in calls if (p, a) == (state, label)}
            else:
                after |= {
                    (q, signs[:-1]) for p, sign, b, q in returns
                    if signs != () and (p, sign, b) == (state, signs[-1], label)
                }
        now = after
        found.append(sorted(now))
    return found


def plain_takes(machine, text):
    return any(state in machine[5] and signs == () for state, signs in plain_configurations(machine, text)[-1])


def plain_pairs(machine, text):
    """Find the pairs of states of the table of a stretch (point 49), part by part."""
    states, _, letters, calls, returns, _ = machine
    if not text:
        return {(p, p) for p in range(states)}
    kind, a = text[0]
    if kind == "letter":
        first = {(p, q) for p, label, q in letters if label == a}
        end = 1
    else:
        end = plain_arches(text)[0][1] + 1
        first = pairs_around(machine, a, text[end - 1][1], plain_pairs(machine, text[1:end - 1]))
    behind = plain_pairs(machine, text[end:])
    return {(p, q) for p, r in first for one, q in behind if r == one}


def pairs_around(machine, a, b, inside):
    _, _, _, calls, returns, _ = machine
    return {
        (p, q) for p, call, r, sign in calls if call == a
        for s, popped, back, q in returns if back == b and popped == sign and (r, s) in inside
    }


def plain_table(machine, pairs):
    """Write pairs of states as a table."""
    return tuple(tuple(sorted(q for one, q in pairs if one == p)) for p in range(machine[0]))


def plain_machine_tables(labels, machine):
    """Give what `plain_numbered` takes for a machine (point 50); values are frozen sets of pairs."""
    states, firsts, letters, _, _, lasts = machine
    return (
        labels,
        frozenset((p, p) for p in range(states)),
        [frozenset((p, q) for p, label, q in letters if label == a) for a in range(labels[0])],
        lambda x, y: frozenset((p, q) for p, r in x for one, q in y if r == one),
        lambda a, b, x: frozenset(pairs_around(machine, a, b, x)),
        lambda x: any(p in firsts and q in lasts for p, q in x),
    )


def plain_machine_reader(labels, machine):
    return plain_numbered(*plain_machine_tables(labels, machine))


def plain_machine(reader):
    """Make the machine of a reader as point 51 says it."""
    (_, calls, returns), empty, letters, mul, wrap, accepted = reader
    n = len(mul)
    steps = ([], [], [])
    for v in range(n):
        for a in range(len(letters)):
            steps[0].append((v, a, mul[v][letters[a]]))
    for v in range(n):
        for a in range(calls):
            steps[1].append((v, a, empty, v * calls + a))
    for v in range(n):
        for a in range(calls):
            for b in range(returns):
                for u in range(n):
                    steps[2].append((u, v * calls + a, b, mul[v][wrap[a][b][u]]))
    return (n, (empty,), *[tuple(several) for several in steps], tuple(accepted))


def some_machines(count, seed, states=3, signs=2, labels=(2, 1, 2)):
    """Make so many machines with several choices, the same ones each time."""
    chance = Random(seed)
    found = []
    for _ in range(count):
        many = chance.randint(1, states)

        def several(make):
            steps = [make() for _ in range(chance.randint(0, 2 + 3 * many))]
            # Now and then a step stands twice.
            return tuple(steps + steps[:chance.randint(0, 1)])

        def state():
            return chance.randrange(many)

        def some_states():
            return tuple(p for p in range(many) if chance.random() < 0.5)

        found.append((
            many, some_states(),
            several(lambda: (state(), chance.randrange(labels[0]), state())),
            several(lambda: (state(), chance.randrange(labels[1]), state(), chance.randrange(signs))),
            several(lambda: (state(), chance.randrange(signs), chance.randrange(labels[2]), state())),
            some_states(),
        ))
    return found
