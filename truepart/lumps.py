"""Lumps: what hangs together of the inside of a body; and where points are."""

from truepart.cells import in_closure, in_order
from truepart.grouping import groups
from truepart.measures import enclosed
from truepart.ordering import point_rank, rank, scale_for, scale_for_points
from truepart.planes import sides


def lump_of(body, group, flats):
    """The lump (volume, corner) of full cells (signs, vertices) of a body; flats are its flat cells."""
    inside = {signs: True for signs, _ in group}
    ends = []
    for _, points, plane, below, above in flats:
        if (below in inside) != (above in inside):
            ends.append((points, body.planes[plane], below in inside))
    return enclosed(ends), in_order([point for _, points in group for point in points])[0]


def ordered(found):
    """Lumps in their order."""
    scale = scale_for([volume for volume, _ in found])
    point_scale = scale_for_points([corner for _, corner in found])
    rows = []
    for k, (volume, corner) in enumerate(found):
        rows.append((point_rank(corner, point_scale), rank(volume, scale), k))
    return [found[row[2]] for row in sorted(rows)]


def lumps(body):
    """The list of the lumps of a body: pairs (volume, corner)."""
    cells = body.solid_cells()
    places = {signs: k for k, (signs, _) in enumerate(cells)}
    flats = body.flat_cells()
    links = [(places[below], places[above]) for _, _, _, below, above in flats if below in places and above in places]
    return ordered([lump_of(body, [cells[k] for k in group], flats) for group in groups(len(cells), links)])


def state_at(body, point):
    """Whether a point is "inside", "outside" or "on" a body, and the list of the origins of the flat places at it."""
    signs = sides(body.planes, point)
    origins = [flat[3] for flat in body.flats() if in_closure(signs, flat[0])]
    if origins:
        return "on", sorted(set(origins))
    if any([in_closure(signs, cell[0]) for cell in body.solid_cells()]):
        return "inside", []
    return "outside", []
