"""Edges: where the flat places of two lists of origins meet."""

from itertools import combinations
from truepart.measures import length_of
from truepart.ordering import point_rank, rank, scale_for, scale_for_points
from truepart.planes import along
from truepart.segments import boundary_segments, flats_with


def picture(at, origins):
    """The picture of origins at a segment, in order: triples (plane, side of the line, below)."""
    return sorted([(flat[2], side, flat[4]) for flat, side in at if flat[3] in origins])


def do_meet(one, other):
    """Whether some plane of a picture and some plane of another one are different."""
    return any([a[0] != b[0] for a in one for b in other])


def pictured(segments, first, second):
    """The segments at which two lists of origins meet: tuples (signs, vertices, direction, pair of pictures)."""
    wanted = {origin: True for origin in first}
    others = {origin: True for origin in second}
    found = []
    for signs, points, direction, at in segments:
        one, other = picture(at, wanted), picture(at, others)
        if do_meet(one, other):
            found.append((signs, points, direction, (one, other)))
    return found


def goes_on(row, after):
    """Whether a segment's edge piece goes on with the segment of its line behind it, if there is one."""
    return after is not None and row[3] == after[3]


def chain_from(row, starts):
    """The segments of the edge piece that begins with a segment."""
    found = [row]
    after = starts.get((row[2], row[1][1]))
    while goes_on(row, after):
        found.append(after)
        row = after
        after = starts.get((row[2], row[1][1]))
    return found


def chains(rows):
    """The lists of segments that are edge pieces."""
    # Of the segments of one direction at most one begins, and at most one ends, at a point.
    starts = {(row[2], row[1][0]): row for row in rows}
    ends = {(row[2], row[1][1]): row for row in rows}
    found = []
    for row in rows:
        in_front = ends.get((row[2], row[1][0]))
        if in_front is None or not goes_on(in_front, row):
            found.append(chain_from(row, starts))
    return found


def ordered(pieces):
    """Edge pieces in their order."""
    reaches = [along(piece[0], piece[1]) for piece in pieces]
    scale = scale_for(reaches)
    point_scale = scale_for_points([piece[1] for piece in pieces])
    rows = []
    for k, piece in enumerate(pieces):
        rows.append((piece[0], rank(reaches[k], scale), point_rank(piece[1], point_scale), k))
    return [pieces[row[3]] for row in sorted(rows)]


def pieces_of(segments, first, second):
    """The edge pieces of two lists of origins, among segments of the boundary."""
    found = []
    for chain in chains(pictured(segments, first, second)):
        cells = [(signs, points) for signs, points, _, _ in chain]
        found.append((chain[0][2], cells[0][1][0], cells[-1][1][1], cells))
    return ordered(found)


def edge_pieces(body, first, second):
    """The list of the edge pieces of two lists of origins: tuples (direction, start, end, cells)."""
    return pieces_of(boundary_segments(body, flats_with(body, [*first, *second])), first, second)


def by_pair(segments):
    """A dict from each pair of origins to the segments that have flat places of both."""
    found = {}
    for row in segments:
        origins = sorted(set([flat[3] for flat, _ in row[3]]))
        for pair in combinations(origins, 2):
            found.setdefault(pair, []).append(row)
    return found


def edges(body):
    """The list of the edge pieces of each two origins: tuples (origins, direction, start, end, length)."""
    segments = by_pair(boundary_segments(body, body.flats()))
    found = []
    for pair in sorted(segments):
        for direction, start, end, _ in pieces_of(segments[pair], [pair[0]], [pair[1]]):
            found.append((pair, direction, start, end, length_of(direction, start, end)))
    return found
