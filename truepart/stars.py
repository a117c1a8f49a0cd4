"""Stars: on which sides of the planes through a point the places close to it are."""

from itertools import combinations
from truepart.products import inner, outer, sign_of, turned

SIGNS = (-1, 0, 1)


def after_step(signs, step, normals):
    """The signs of a place at planes through a point, behind a small step from where the place has these signs."""
    return tuple([sign if sign != 0 else sign_of(inner(normal, step)) for sign, normal in zip(signs, normals)])


def rays(normals):
    """A dict from the signs of each ray, along which two of the planes meet, to its direction."""
    start = (0,) * len(normals)
    found = {}
    for a, b in combinations(normals, 2):
        step = outer(a, b)
        if step != (0, 0, 0):
            found[after_step(start, step, normals)] = step
            found[after_step(start, turned(step), normals)] = turned(step)
    return found


def leaves(found_rays, normals):
    """A dict from the signs of each part of one plane, between rays, to the normal of this plane."""
    found = {}
    for signs, ray in found_rays.items():
        for sign, normal in zip(signs, normals):
            if sign == 0:
                step = outer(normal, ray)
                found[after_step(signs, step, normals)] = normal
                found[after_step(signs, turned(step), normals)] = normal
    return found


def solids(found_leaves, normals):
    """A dict that has the signs of each part of space between the planes."""
    found = {}
    for signs, normal in found_leaves.items():
        found[after_step(signs, normal, normals)] = True
        found[after_step(signs, turned(normal), normals)] = True
    return found


def star(normals):
    """The list of the signs, at planes with these normals through a point, of all places close to the point.

    The normals of three of the planes are independent.
    """
    if len(normals) == 3:
        return [(a, b, c) for a in SIGNS for b in SIGNS for c in SIGNS]
    found_rays = rays(normals)
    found_leaves = leaves(found_rays, normals)
    # Each part has a part with one dimension less at its end, so that steps from part to part lead to all of them.
    return [(0,) * len(normals)] + list(found_rays) + list(found_leaves) + list(solids(found_leaves, normals))


def replaced(signs, places, others):
    """The tuple of signs that has others at these places."""
    row = list(signs)
    for place, other in zip(places, others):
        row[place] = other
    return tuple(row)
