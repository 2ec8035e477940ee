"""Shapes: trees as data."""

from lookon.names import are_ascending, is_name, is_number, is_plain


def is_shape(value):
    """Return whether anything is a shape."""
    seen = set()
    left = [value]
    while left:
        part = left.pop()
        if not _is_node(part) or part[1] in seen:
            return False
        seen.add(part[1])
        left.extend(children_of(part))
    return True


def _is_node(value):
    """Return whether anything is a node of a shape, whatever its children are."""
    if not isinstance(value, tuple):
        return False
    if len(value) == 3:
        return value[0] == "t" and is_number(value[1]) and is_plain(value[2])
    if len(value) != 5 or value[0] != "e":
        return False
    return is_number(value[1]) and is_name(value[2]) and _are_marks(value[3]) and isinstance(value[4], tuple)


def _are_marks(value):
    """Return whether anything is the marks of an element."""
    if not isinstance(value, tuple) or not all([_is_mark(pair) for pair in value]):
        return False
    return are_ascending([pair[0] for pair in value])


def _is_mark(value):
    """Return whether anything is a mark with its value."""
    return isinstance(value, tuple) and len(value) == 2 and is_name(value[0]) and is_plain(value[1])


def children_of(shape):
    """Return the tuple of the children, of a text the empty one."""
    return shape[4] if shape[0] == "e" else ()


def parts_of(shape):
    """Return the list of the shapes of all nodes, in order."""
    parts = []
    left = [shape]
    while left:
        part = left.pop()
        parts.append(part)
        left.extend(children_of(part)[::-1])
    return parts


def numbers_of(shape):
    """Return the list of the numbers of all nodes, in order."""
    return [part[1] for part in parts_of(shape)]


def find(shape, number):
    """Return the part with this number, or None."""
    for part in parts_of(shape):
        if part[1] == number:
            return part
    return None


def parent_of(shape, number):
    """Return the number of the parent of a node within the shape, or None."""
    return _parents_in(shape).get(number)


def _parents_in(shape):
    """Return the numbers of the parents within the shape, by the numbers of their children."""
    return {child[1]: part[1] for part in parts_of(shape) for child in children_of(part)}


def way_to(shape, number):
    """Return the tuple of a node, its parent, and so on up to the whole shape, or the empty one."""
    if find(shape, number) is None:
        return ()
    parents = _parents_in(shape)
    way = [number]
    while way[-1] in parents:
        way.append(parents[way[-1]])
    return tuple(way)


def following(shape, number):
    """Return the number of the next sibling of a child of this element, or None."""
    numbers = [child[1] for child in children_of(shape)]
    if number not in numbers[:-1]:
        return None
    return numbers[numbers.index(number) + 1]


def mark_of(shape, name):
    """Return the value of a mark of this element, or None."""
    return dict(shape[3]).get(name)


def replaced(shape, number, new):
    """Return the shape with `new` in place of the part with this number."""
    way = way_to(shape, number)
    if not way:
        return shape
    for below, above in zip(way, way[1:]):
        part = find(shape, above)
        new = _with_children(part, [new if child[1] == below else child for child in part[4]])
    return new


def without_child(shape, number):
    """Return this element without a child."""
    return _with_children(shape, [child for child in shape[4] if child[1] != number])


def with_child(shape, new, before):
    """Return this element with a further child, ahead of the child `before` or as the last one."""
    children = []
    for child in shape[4]:
        if child[1] == before:
            children.append(new)
        children.append(child)
    if before is None:
        children.append(new)
    return _with_children(shape, children)


def _with_children(shape, children):
    """Return this element with other children."""
    return ("e", shape[1], shape[2], shape[3], tuple(children))


def with_mark(shape, name, value):
    """Return this element with a mark, or without it if the value is None."""
    marks = [pair for pair in shape[3] if pair[0] != name]
    if value is not None:
        marks.append((name, value))
    return ("e", shape[1], shape[2], tuple(sorted(marks)), shape[4])
