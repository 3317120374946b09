"""Expressions: rows of nodes, a node being five numbers: its kind, lo, hi, a, b."""

NOTHING = 0
BYTE = 1
SEQ = 2
ALT = 3
MANY = 4

NODE_SIZE = 5
MOST_NODES = 32
LAST_BYTE = 255


def nodes_of(numbers):
    """The nodes that these numbers tell, five numbers each."""
    return [tuple(numbers[begin:begin + NODE_SIZE]) for begin in range(0, len(numbers), NODE_SIZE)]


def is_expression(numbers):
    """Whether these numbers are 1 to 32 nodes, each as it must be at its place."""
    if len(numbers) == 0 or len(numbers) > MOST_NODES * NODE_SIZE:
        return False
    if len(numbers) % NODE_SIZE != 0:
        return False
    return all([is_node(node, place) for place, node in enumerate(nodes_of(numbers))])


def is_node(node, place):
    """Whether a node may stand at this place; numbers that its kind doesn't name may be anything."""
    kind, lo, hi, a, b = node
    if kind == NOTHING:
        return True
    if kind == BYTE:
        return lo <= hi and hi <= LAST_BYTE
    if kind == SEQ or kind == ALT:
        return a < place and b < place
    if kind == MANY:
        return a < place
    return False


def matches_empty(nodes):
    """Whether the last node matches the empty text."""
    empty = []
    for kind, lo, hi, a, b in nodes:
        if kind == SEQ:
            empty.append(empty[a] and empty[b])
        elif kind == ALT:
            empty.append(empty[a] or empty[b])
        else:
            empty.append(kind != BYTE)
    return empty[-1]
