"""Faces: what hangs together of the flat places of some origins."""

from itertools import combinations
from truepart.cells import in_order
from truepart.grouping import groups
from truepart.measures import area_of
from truepart.ordering import point_rank, scale_for_points
from truepart.segments import boundary_segments, flats_with, narrowed


def touching(flats, segments):
    """The pairs of indexes of flat places that touch."""
    places = {flat[0]: k for k, flat in enumerate(flats)}
    found = []
    for _, _, _, at in segments:
        for (one, _), (other, _) in combinations(at, 2):
            if one[2] == other[2] and one[4] == other[4]:
                found.append((places[one[0]], places[other[0]]))
    return found


def pieces_of(flats, segments):
    """The face pieces that flat places make; the segments are those with these flat places alone."""
    found = []
    for group in groups(len(flats), touching(flats, segments)):
        _, _, plane, _, is_below = flats[group[0]]
        found.append((plane, is_below, [flats[k] for k in group]))
    return found


def face_pieces(body, origins):
    """The list of the face pieces of a list of origins: triples (index of the plane, below, flat places)."""
    flats = flats_with(body, origins)
    return pieces_of(flats, boundary_segments(body, flats))


def corners_of(segments):
    """The corners of a flat part; the segments are those with the flat places of the part alone."""
    directions = {}
    for _, points, direction, at in segments:
        if len(at) == 1:
            for point in points:
                directions.setdefault(point, []).append(direction)
    found = []
    for point, there in directions.items():
        if len(there) != 2 or there[0] != there[1]:
            found.append(point)
    return in_order(found)


def facet_of(body, piece, segments):
    """The area and the corners of a face piece; the segments are those with its flat places alone."""
    plane, _, flats = piece
    return area_of([flat[1] for flat in flats], body.planes[plane][0]), corners_of(segments)


def facet(body, piece):
    """The area and the corners of a face piece."""
    return facet_of(body, piece, boundary_segments(body, piece[2]))


def by_origin(segments):
    """A dict from each origin to the segments that have flat places of it, with these flat places alone."""
    found = {}
    for signs, points, direction, at in segments:
        for origin in sorted(set([flat[3] for flat, _ in at])):
            there = [(flat, side) for flat, side in at if flat[3] == origin]
            found.setdefault(origin, []).append((signs, points, direction, there))
    return found


def faces(body):
    """The list of the face pieces of each single origin: tuples (origin, below, plane, area, corners)."""
    flats = body.flats()
    segments = by_origin(boundary_segments(body, flats))
    scale = scale_for_points([point for flat in flats for point in flat[1]])
    rows = []
    for origin in segments:
        there = segments[origin]
        for piece in pieces_of([flat for flat in flats if flat[3] == origin], there):
            area, corners = facet_of(body, piece, narrowed(there, piece[2]))
            key = [point_rank(point, scale) for point in corners]
            rows.append((origin, key, len(rows), (origin, piece[1], body.planes[piece[0]], area, corners)))
    return [row[3] for row in sorted(rows)]
