"""Where names go in a body."""

from truepart.cells import in_closure
from truepart.corners import corner_points
from truepart.edges import edge_pieces
from truepart.faces import face_pieces
from truepart.planes import along, cross
from truepart.products import AXES


def itself(name):
    """For each place of a name the list of its own origin."""
    return [[origin] for origin in name[1]]


def not_found(things):
    """What there is to say of a name that is not found, if these things are as it says."""
    return ("split", things) if things else ("lost", [])


def only_one(things):
    """What there is to say of a name that goes to a thing if no other one is as it says."""
    if len(things) == 1:
        return ("found", things[0])
    return not_found(things)


def line_of(piece):
    """What tells the line of an edge piece: two edge pieces have the same if and only if they lie on one line."""
    direction, start = piece[:2]
    return (direction, tuple([along(cross(direction, axis), start) for axis in AXES]))


def are_as_many(pieces, many):
    """Whether there are so many edge pieces, all on one line."""
    return len(pieces) == many and len(set([line_of(piece) for piece in pieces])) == 1


def looking(body, origins, facing):
    """The face pieces of a list of origins that look up or down, or all of them without a facing."""
    return [piece for piece in face_pieces(body, origins) if facing == "" or piece[1] == (facing == "up")]


def is_at(face, signs):
    """Whether a cell is in the closure of a flat place of a face piece."""
    return any([in_closure(signs, flat[0]) for flat in face[2]])


def has_all(face, edge):
    """Whether a face piece has an edge piece all along."""
    return all([is_at(face, signs) for signs, _ in edge[3]])


def look_plane(body, meant):
    """Where the name of a plane goes."""
    return only_one(list({piece[0]: True for piece in face_pieces(body, meant[0])}))


def look_face(body, name, meant):
    """Where the name of a face goes."""
    return only_one(looking(body, meant[0], name[2]))


def look_piece(body, name, meant):
    """Where the name of a face by an edge goes."""
    at, many = name[3]
    edges = edge_pieces(body, meant[0], meant[1])
    faces = looking(body, meant[0], name[2])
    if are_as_many(edges, many):
        found = [face for face in faces if has_all(face, edges[at - 1])]
        if len(found) == 1:
            return ("found", found[0])
    return not_found(faces)


def look_edge(body, name, meant):
    """Where the name of an edge goes."""
    at, many = name[3]
    edges = edge_pieces(body, meant[0], meant[1])
    if are_as_many(edges, many):
        return ("found", edges[at - 1])
    return not_found(edges)


def look_corner(body, meant):
    """Where the name of a corner goes."""
    return only_one(corner_points(body, meant[0], meant[1], meant[2]))


def look(body, name, meant):
    """("found", thing), ("split", things) or ("lost", []); meant has for each place the list of its origins."""
    kind = name[0]
    if kind == "plane":
        return look_plane(body, meant)
    if kind == "face":
        return look_face(body, name, meant)
    if kind == "piece":
        return look_piece(body, name, meant)
    if kind == "edge":
        return look_edge(body, name, meant)
    return look_corner(body, meant)
