"""Patches: the fewest records by which one view becomes another one."""

from lookon.errors import InvalidArgument
from lookon.shapes import children_of, find, numbers_of, parts_of

# How many records it takes to take a node out and to put it in again.
ANEW = 2


def patch(first, second):
    """Return a list of the fewest records that lead from the first view to the second one."""
    stays = staying(first, second)
    outs = []
    changes = []
    puts = []
    for number in stays:
        part = find(first, number)
        other = find(second, number)
        outs.extend([("out", number, child[1]) for child in children_of(part) if child[1] not in stays])
        changes.extend(_changes(part, other))
        puts.extend(_puts(other, stays))
    # The outs come first, so that no number that is put in is still in the view.
    return outs + changes + puts


def cost(first, second):
    """Return how many records a patch has."""
    return _plans(first, second)[first[1]].many


def staying(first, second):
    """Return the list of the numbers of the nodes that a patch never takes out, in the order of the second view."""
    plans = _plans(first, second)
    stays = []
    left = [first[1]]
    while left:
        number = left.pop()
        stays.append(number)
        left.extend(plans[number].row)
    return [number for number in numbers_of(second) if number in stays]


class Plan:
    """What becomes of a node that stays: how many records it takes, and which of its children stay, in a row."""

    def __init__(self, many, row):
        self.many = many
        self.row = row


def _plans(first, second):
    """Return the plans of all nodes that could stay if their parents did, by their numbers."""
    if first[1] != second[1] or not _are_alike(first, second):
        raise InvalidArgument("second")
    others = {part[1]: part for part in parts_of(second)}
    plans = {}
    # Backwards each node comes behind its children, so their plans are there.
    for part in reversed(parts_of(first)):
        number = part[1]
        if number in others and _are_alike(part, others[number]):
            plans[number] = _plan(part, others[number], plans)
    return plans


def _are_alike(part, other):
    """Return whether two nodes are elements with the same name, or texts."""
    return part[0] == other[0] and (part[0] == "t" or part[2] == other[2])


def _plan(part, other, plans):
    """Return the plan of a node that is this part of the first view and that one of the second view."""
    places = {child[1]: place for place, child in enumerate(children_of(other))}
    # Where it is as cheap to take a child out and put it in again, it need not stay.
    gains = {child[1]: ANEW - plans[child[1]].many for child in children_of(part)
             if child[1] in places and child[1] in plans and plans[child[1]].many < ANEW}
    row = _best_row(gains, places)
    many = len(_changes(part, other)) + len(children_of(part)) + len(children_of(other))
    return Plan(many - sum([gains[number] for number in row]), row)


def _best_row(gains, places):
    """Return the row of numbers with the greatest gain whose places ascend, in the order in which they are told."""
    best = (0, [])
    ends = []
    for number in gains:
        ahead = [end for end in ends if places[end[1][-1]] < places[number]]
        gain, row = max(ahead, key=lambda told: told[0], default=(0, []))
        ends.append((gain + gains[number], row + [number]))
        best = max(best, ends[-1], key=lambda told: told[0])
    return best[1]


def _changes(part, other):
    """Return the list of the records of the marks or the text in which a node differs."""
    if part[0] == "t":
        return [] if part[2] == other[2] else [("text", part[1], other[2])]
    old = dict(part[3])
    new = dict(other[3])
    return [("mark", part[1], name, new.get(name)) for name in sorted({**old, **new}) if old.get(name) != new.get(name)]


def _puts(other, stays):
    """Return the list of the records that put in the children of a node of the second view that do not stay."""
    puts = []
    before = None
    # From the last child on, so that the next sibling is always there.
    for child in reversed(children_of(other)):
        if child[1] not in stays:
            puts.append(("put", other[1], child, before))
        before = child[1]
    return puts
