"""Circuits: few planes whose normals, multiplied, come to nothing."""

from itertools import combinations
from truepart.numbers import common, fraction, times, total
from truepart.planes import cross, dot, is_parallel, triple


def without_common(multipliers):
    """The tuple of the multipliers without a divisor in common, the first one above 0."""
    shared = 0
    for multiplier in multipliers:
        shared = common(shared, multiplier)
    if multipliers[0] < 0:
        shared = -shared
    return tuple([multiplier // shared for multiplier in multipliers])


def pairs(normals):
    """The circuits of two planes."""
    found = []
    for i, j in combinations(range(len(normals)), 2):
        if normals[i] == normals[j]:
            found.append(((i, j), (1, -1)))
    return found


def three_multipliers(a, b, c):
    """The multipliers of three directions in one plane, no two of them parallel."""
    # The cross products all go along one direction, so that products with it measure them.
    axis = cross(a, b)
    return without_common((dot(cross(b, c), axis), dot(cross(c, a), axis), dot(cross(a, b), axis)))


def threes(normals, volumes):
    """The circuits of three planes; the triple products of all three of the planes are told."""
    found = []
    for places in combinations(range(len(normals)), 3):
        three = [normals[place] for place in places]
        if volumes[places] == 0 and not any([is_parallel(a, b) for a, b in combinations(three, 2)]):
            found.append((places, three_multipliers(*three)))
    return found


def fours(normals, volumes):
    """The circuits of four planes; the triple products of all three of the planes are told."""
    found = []
    for i, j, k, m in combinations(range(len(normals)), 4):
        sizes = (volumes[j, k, m], -volumes[i, k, m], volumes[i, j, m], -volumes[i, j, k])
        if 0 not in sizes:
            found.append(((i, j, k, m), without_common(sizes)))
    return found


def circuits(normals):
    """The list of all circuits of planes with these normals, as pairs of places and multipliers."""
    volumes = {}
    for i, j, k in combinations(range(len(normals)), 3):
        volumes[i, j, k] = triple(normals[i], normals[j], normals[k])
    return sorted(pairs(normals) + threes(normals, volumes) + fours(normals, volumes))


def form(circuit, offsets):
    """The sum of the offsets of the planes of a circuit, each multiplied."""
    return total([times(fraction(multiplier), offsets[place]) for place, multiplier in zip(*circuit)])


def vanishes(circuit, normals):
    """Whether the normals, multiplied, have the sum (0, 0, 0)."""
    places, multipliers = circuit
    for axis in range(3):
        if sum([multiplier * normals[place][axis] for place, multiplier in zip(places, multipliers)]) != 0:
            return False
    return True
