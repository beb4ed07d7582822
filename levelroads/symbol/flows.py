"""What the symbols of all pairs of a level are, as sums of those of the basis.

The relations of the symbols are those of a flow. Let the three pairs of a relation of three symbols be the ways out
of one place, and let the symbol of a pair tell how much goes this way: its opposite is what goes back, which is the
symbol of (d, -c), and at each place all ways out add up to 0. So the basis consists of the ways that a tree of the
other ones leaves out, and each of these has one flow that goes through it once, and back along the tree. A symbol
has as much of a symbol of the basis as the flow of this one has at its pair: 1, -1 or 0.
"""

from math import gcd


def pair_numbers(level, told):
    """The indices of the pairs of all c and d, at c * level + d, both below the level.

    For those that tell no pair it is the number of all pairs, so that a list with one more place can be counted in.
    """
    numbers = [len(told)] * (level * level)
    units = [unit for unit in range(level) if gcd(unit, level) == 1]
    for index, (c, d) in enumerate(told):
        for unit in units:
            numbers[unit * c % level * level + unit * d % level] = index
    return tuple(numbers)


def basis_and_images(level, told, numbers):
    """The indices of the pairs of the basis, and for each pair the tuple of the places in the basis with their signs.
    """
    opposite = [numbers[d * level + -c % level] for c, d in told]
    places, many = _places(level, told, numbers)
    tree, basis = _parted_ways(opposite, places, many)
    upward, depth = _hung_up(tree, opposite, places, many)
    images = [[] for _ in told]
    for place, index in enumerate(basis):
        for way, sign in _flow_through(index, opposite, places, upward, depth):
            images[way].append((place, sign))
            images[opposite[way]].append((place, -sign))
    return basis, tuple([tuple(image) for image in images])


def _places(level, told, numbers):
    """For each pair the place from which it leads, and how many places there are."""
    places = [None] * len(told)
    many = 0
    for index in range(len(told)):
        if places[index] is None:
            at = index
            while places[at] is None:
                places[at] = many
                c, d = told[at]
                at = numbers[d * level + (-c - d) % level]
            many = many + 1
    return places, many


def _parted_ways(opposite, places, many):
    """The indices of the pairs of a tree of ways between all places, and of the pairs of the basis.

    The last ways come first: so the tree has the ways that can be told by those ahead of them.
    """
    groups = list(range(many))
    tree = []
    basis = []
    for index in range(len(opposite) - 1, -1, -1):
        # A pair that is its own opposite has the symbol zero, and of two opposites the lesser one is told.
        if index < opposite[index]:
            one, other = groups[places[index]], groups[places[opposite[index]]]
            if one == other:
                basis.append(index)
            else:
                tree.append(index)
                groups = [one if group == other else group for group in groups]
    return tree, basis[::-1]


def _hung_up(tree, opposite, places, many):
    """For each place but the first one the way of the tree towards this one, and how far away it is."""
    ways = [[] for _ in range(many)]
    for index in tree:
        ways[places[index]].append(index)
        ways[places[opposite[index]]].append(opposite[index])
    upward = [None] * many
    depth = [0] * many
    layer = [0]
    while layer:
        steps = [(place, way) for place in layer for way in ways[place] if way != upward[place]]
        for place, way in steps:
            below = places[opposite[way]]
            upward[below] = opposite[way]
            depth[below] = depth[place] + 1
        layer = [places[opposite[way]] for _, way in steps]
    return upward, depth


def _flow_through(index, opposite, places, upward, depth):
    """The pairs, with 1 or -1 each, of the flow through a pair of the basis; those of the ways back are left out."""
    start, end = places[index], places[opposite[index]]
    flow = [(index, 1)]
    while start != end:
        if depth[end] >= depth[start]:
            way = upward[end]
            flow.append((way, 1))
            end = places[opposite[way]]
        else:
            way = upward[start]
            flow.append((way, -1))
            start = places[opposite[way]]
    return flow
