"""Least readers: which values are alike, and what tells the others apart."""

from archway.errors import DifferentLabels
from archway.readers import MOST_VALUES
from archway.shortest import text_of
from archway.values import made_reader, numbered


def leaders(reader):
    """Return the list with the leader of each value of a numbered reader."""
    return _partitions(reader)[-1]


def least(reader):
    """Return the least reader of a reader."""
    return made_reader(_leader_rules(numbered(reader)), MOST_VALUES)


def same_texts(first, second):
    """Tell whether two readers with the same labels accept the same texts."""
    if first[0] != second[0]:
        raise DifferentLabels("two readers with the same labels are compared")
    return least(first) == least(second)


def parting_context(reader, one, other):
    """Return the context that tells two values of a least reader apart, or None if they are equal."""
    if one == other:
        return None
    partitions = _partitions(reader)
    context = []
    pair = (one, other)
    told = _round_of(partitions, pair)
    while told > 0:
        step, pair = _first_parting(reader, partitions[told - 1], pair)
        context.append(_step_with_text(reader, step))
        told = _round_of(partitions, pair)
    return context


def _partitions(reader):
    """Return, for each round of telling values apart, the lowest value not told apart from each."""
    accepted = reader[5]
    found = [_first_equals([x in accepted for x in range(len(reader[3]))])]
    refined = _refined(reader, found[-1])
    while refined != found[-1]:
        found.append(refined)
        refined = _refined(reader, found[-1])
    return found


def _first_equals(members):
    """Return, for each member, the position of the first one that equals it."""
    first = {}
    return [first.setdefault(member, at) for at, member in enumerate(members)]


def _refined(reader, partition):
    """Return the partition of the next round."""
    _, _, _, mul, wrap, _ = reader
    return _first_equals([_led_to(mul, wrap, partition, x) for x in range(len(mul))])


def _led_to(mul, wrap, partition, x):
    """Return what a value is, and what each step leads it to, up to what is not told apart."""
    ahead = [partition[row[x]] for row in mul]
    behind = [partition[whole] for whole in mul[x]]
    around = [partition[row[x]] for rows in wrap for row in rows]
    return (partition[x], *ahead, *behind, *around)


def _leader_rules(reader):
    """Return the rules of a numbered reader with leaders instead of values."""
    labels, empty, letters, mul, wrap, accepted = reader
    leader = leaders(reader)

    def mul_of(x, y):
        return leader[mul[x][y]]

    def wrap_of(a, b, x):
        return leader[wrap[a][b][x]]

    def is_accepted(x):
        return x in accepted

    return (labels, leader[empty], [leader[x] for x in letters], mul_of, wrap_of, is_accepted)


def _round_of(partitions, pair):
    """Return the number of the round in which a pair of values is told apart."""
    one, other = pair
    return [partition[one] != partition[other] for partition in partitions].index(True)


def _first_parting(reader, partition, pair):
    """Return the first step that leads to a pair that is told apart, and that pair."""
    one, other = pair
    for step in _steps(reader):
        led = (_after_step(reader, step, one), _after_step(reader, step, other))
        if partition[led[0]] != partition[led[1]]:
            return (step, led)
    return None


def _steps(reader):
    """Return the steps of contexts in the order of trying, with values instead of texts."""
    labels, _, _, mul, _, _ = reader
    ahead = [("ahead", z) for z in range(len(mul))]
    behind = [("behind", z) for z in range(len(mul))]
    around = [("around", a, b) for a in range(labels[1]) for b in range(labels[2])]
    return ahead + behind + around


def _after_step(reader, step, value):
    """Return the value to which a step leads a value."""
    _, _, _, mul, wrap, _ = reader
    if step[0] == "ahead":
        return mul[step[1]][value]
    if step[0] == "behind":
        return mul[value][step[1]]
    _, a, b = step
    return wrap[a][b][value]


def _step_with_text(reader, step):
    """Return a step with the first shortest text of its value, if it has one."""
    if step[0] == "around":
        return step
    return (step[0], text_of(reader, step[1]))
