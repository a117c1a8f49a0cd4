"""The cells that planes make, found around each vertex on its own: slow, to compare with."""

from itertools import combinations
from truepart.cells import vertices
from truepart.planes import sides
from truepart.products import inner, outer, sign_of
from truepart.signs import replaced

SIGNS = (-1, 0, 1)


def turned(a):
    """The direction that points to the other side."""
    return (-a[0], -a[1], -a[2])


def after_step(signs, step, normals):
    """The signs of a place at planes through a point, behind a small step from where the place has these signs."""
    return tuple([sign if sign != 0 else sign_of(inner(normal, step)) for sign, normal in zip(signs, normals)])


def rays(normals):
    """A dict from the signs of each ray, along which two of the planes meet, to its direction."""
    start = (0,) * len(normals)
    found = {}
    for a, b in combinations(normals, 2):
        step = outer(a, b)
        if step != (0, 0, 0):
            found[after_step(start, step, normals)] = step
            found[after_step(start, turned(step), normals)] = turned(step)
    return found


def leaves(found_rays, normals):
    """A dict from the signs of each part of one plane, between rays, to the normal of this plane."""
    found = {}
    for signs, ray in found_rays.items():
        for sign, normal in zip(signs, normals):
            if sign == 0:
                step = outer(normal, ray)
                found[after_step(signs, step, normals)] = normal
                found[after_step(signs, turned(step), normals)] = normal
    return found


def solids(found_leaves, normals):
    """A dict that has the signs of each part of space between the planes."""
    found = {}
    for signs, normal in found_leaves.items():
        found[after_step(signs, normal, normals)] = True
        found[after_step(signs, turned(normal), normals)] = True
    return found


def star(normals):
    """The list of the signs, at planes with these normals through a point, of all places close to the point.

    The normals of three of the planes are independent.
    """
    if len(normals) == 3:
        return [(a, b, c) for a in SIGNS for b in SIGNS for c in SIGNS]
    found_rays = rays(normals)
    found_leaves = leaves(found_rays, normals)
    # Each part has a part with one dimension less at its end, so that steps from part to part lead to all of them.
    return [(0,) * len(normals)] + list(found_rays) + list(found_leaves) + list(solids(found_leaves, normals))


# The signs that points of the room can have at its sides, besides 0.
ROOM_SIGNS = (1, -1, 1, -1, 1, -1)


def room_star(walls_there):
    """The signs of the places of the room close to a point, at planes through it.

    The planes are told as pairs of a normal and the sign that the room allows there, 0 if it allows both.
    """
    allowed = [sign for _, sign in walls_there]
    found = star([normal for normal, _ in walls_there])
    return [signs for signs in found if all(a * b >= 0 for a, b in zip(signs, allowed))]


def arrange(planes, low, high):
    """The list of all cells as pairs of sides and vertices, in ascending order of the sides."""
    allowed = (0,) * (len(planes) - len(ROOM_SIGNS)) + ROOM_SIGNS
    found = {}
    # Each cell has a vertex; so all cells are found around the vertices.
    for point in vertices(planes, low, high):
        signs = sides(planes, point)
        there = [k for k, sign in enumerate(signs) if sign == 0]
        for near in room_star([(planes[k][0], allowed[k]) for k in there]):
            found.setdefault(replaced(signs, there, near), []).append(point)
    return sorted(found.items())
