"""What the document says of bodies, word by word and slowly, to compare the package with."""

from fractions import Fraction
from itertools import combinations

from truepart.cells import centre, dimension, in_closure
from truepart.planes import along, canonical, cross, independent


def exact(part):
    return Fraction(*part)


def pair(part):
    return (part.numerator, part.denominator)


def order(point):
    return tuple(exact(part) for part in point)


def products(direction, point):
    return exact(along(direction, point))


def in_tool(test, sides, planes, point):
    kind = test[0]
    if kind == "side":
        _, plane, above = sides[test[1]]
        normal, offset = planes[plane]
        ahead = products(normal, point) - exact(offset)
        return ahead > 0 if above else ahead < 0
    if kind == "not":
        return not in_tool(test[1], sides, planes, point)
    first = in_tool(test[1], sides, planes, point)
    second = in_tool(test[2], sides, planes, point)
    return (first and second) if kind == "both" else (first or second)


def in_body(body, point):
    """Whether a point on no plane is in the body, out of points alone."""
    state = False
    for _, op, sides, test in body.tools:
        there = in_tool(test, sides, body.planes, point)
        state = {"add": state or there, "cut": state and not there, "keep": state and there}[op]
    return state


def segments(body):
    return [(signs, points) for signs, points in body.cells if dimension(signs, body.planes) == 1]


def direction_of(body, signs):
    normals = [plane[0] for sign, plane in zip(signs, body.planes) if sign == 0]
    return canonical(next(cross(a, b) for a, b in combinations(normals, 2) if cross(a, b) != (0, 0, 0)))


def with_ends(body, signs, points):
    """The vertices of a segment from its start on."""
    direction = direction_of(body, signs)
    return sorted(points, key=lambda point: products(direction, point))


def hang_together(things, touch):
    """Groups of things, each in the order of the things."""
    found = [[thing] for thing in things]
    merged = True
    while merged:
        merged = False
        for one, other in combinations(found, 2):
            if any(touch(a, b) for a in one for b in other):
                found.remove(other)
                one.extend(other)
                merged = True
                break
    found = [[thing for thing in things if thing in group] for group in found]
    return sorted(found, key=lambda group: things.index(group[0]))


def face_pieces(body, origins):
    flats = [flat for flat in body.flats() if flat[3] in origins]
    lines = segments(body)

    def touch(a, b):
        alike = a[2] == b[2] and a[4] == b[4]
        return alike and any(in_closure(s, a[0]) and in_closure(s, b[0]) for s, _ in lines)

    return [(group[0][2], group[0][4], group) for group in hang_together(flats, touch)]


def corners_of_part(body, flats):
    end = []
    for signs, points in segments(body):
        if sum(in_closure(signs, flat[0]) for flat in flats) == 1:
            end.append((direction_of(body, signs), points))
    found = []
    for point in {point for _, points in end for point in points}:
        there = [direction for direction, points in end if point in points]
        if not (len(there) == 2 and there[0] == there[1]):
            found.append(point)
    return sorted(found, key=order)


def line_side(body, flat, direction, point):
    """On which side of a line, through a point, a flat place lies."""
    normal = cross(body.planes[flat[2]][0], direction)
    return 1 if products(normal, centre(flat[1])) > products(normal, point) else -1


def picture(body, flats, signs, points):
    """What flat places show at a segment."""
    direction = direction_of(body, signs)
    there = [flat for flat in flats if in_closure(signs, flat[0])]
    return {(flat[2], line_side(body, flat, direction, points[0]), flat[4]) for flat in there}


def edge_pieces(body, first, second):
    rows = []
    flats = body.flats()
    flats_of = [[flat for flat in flats if flat[3] in origins] for origins in (first, second)]
    for signs, points in segments(body):
        one, other = [picture(body, some, signs, points) for some in flats_of]
        if any(a[0] != b[0] for a in one for b in other):
            rows.append((direction_of(body, signs), with_ends(body, signs, points), signs, (one, other)))

    def touch(a, b):
        alike = a[0] == b[0] and a[3] == b[3]
        return alike and (a[1][1] == b[1][0] or b[1][1] == a[1][0])

    found = []
    for group in hang_together(rows, touch):
        group = sorted(group, key=lambda row: products(row[0], row[1][0]))
        cells = [(signs, points) for _, points, signs, _ in group]
        found.append((group[0][0], group[0][1][0], group[-1][1][1], cells))
    return sorted(found, key=lambda piece: (piece[0], products(piece[0], piece[1]), order(piece[1])))


def corner_points(body, first, second, third):
    flats = body.flats()
    found = []
    for signs, points in body.cells:
        if dimension(signs, body.planes) == 0:
            there = [flat for flat in flats if in_closure(signs, flat[0])]
            rows = [[flat for flat in there if flat[3] in origins] for origins in (first, second, third)]
            if any(independent([body.planes[flat[2]][0] for flat in (a, b, c)]) == 3
                   for a in rows[0] for b in rows[1] for c in rows[2]):
                found.append(points[0])
    return sorted(found, key=order)


def solid_volume(points):
    """The volume of the convex hull of points, none of which is inside it, by cutting it into pyramids."""
    middle = order(centre(points))
    faces = set()
    for a, b, c in combinations([order(point) for point in points], 3):
        normal = cross(*[tuple(y - x for x, y in zip(a, other)) for other in (b, c)])
        ahead = {order(point): sum(n * (x - y) for n, x, y in zip(normal, order(point), a)) for point in points}
        if any(normal) and (min(ahead.values()) == 0 or max(ahead.values()) == 0):
            faces.add(frozenset(point for point in ahead if ahead[point] == 0))
    return sum((pyramid(sorted(face), middle) for face in faces), Fraction(0))


def pyramid(corners, top):
    """The volume between a flat convex polygon and a point."""
    found = Fraction(0)
    heart = tuple(sum(parts) / len(corners) for parts in zip(*corners))
    for a, b in combinations(corners, 2):
        edge = tuple(y - x for x, y in zip(a, b))
        turns = [cross(edge, tuple(z - x for x, z in zip(a, other))) for other in corners]
        turns = [turn for turn in turns if any(turn)]
        if all(sum(x * y for x, y in zip(turns[0], turn)) > 0 for turn in turns):
            sides = [tuple(y - x for x, y in zip(top, other)) for other in (a, b, heart)]
            found += abs(sum(x * y for x, y in zip(sides[0], cross(sides[1], sides[2])))) / 6
    return found


def lumps(body):
    """The lumps, with volumes of convex cells that are cut into pyramids."""
    full = [cell for cell in body.cells if 0 not in cell[0] and in_body(body, centre(cell[1]))]
    flats = [signs for signs, _ in body.cells if signs.count(0) == 1]

    def touch(a, b):
        differ = [k for k, (x, y) in enumerate(zip(a[0], b[0])) if x != y]
        return len(differ) == 1 and a[0][:differ[0]] + (0,) + a[0][differ[0] + 1:] in flats

    found = []
    for group in hang_together(full, touch):
        whole = sum(solid_volume(points) for _, points in group)
        found.append((whole, min([order(point) for _, points in group for point in points])))
    return [(pair(whole), tuple(map(pair, corner))) for whole, corner in sorted(found, key=lambda lump: lump[::-1])]


def flat_area(points, normal):
    """The area of a flat convex polygon over the length of its normal, by the volume of a pyramid over it."""
    top = tuple(x + n for x, n in zip(order(points[0]), normal))
    # A third of the area times the height, which is the length of the normal.
    return 3 * pyramid([order(point) for point in points], top) / sum(n * n for n in normal)


def section(body, wall):
    """The parts that a plane, which is one of those of the body, cuts out."""
    at = body.planes.index(wall)
    flats = []
    for signs, points in body.cells:
        if dimension(signs, body.planes) == 2 and signs[at] == 0:
            beside = [signs[:at] + (side,) + signs[at + 1:] for side in (-1, 1)]
            cells = [cell for cell in body.cells if cell[0] in beside]
            if len(cells) == 2 and all(in_body(body, centre(points)) for _, points in cells):
                flats.append((signs, points))
    lines = segments(body)

    def touch(a, b):
        return any(in_closure(signs, a[0]) and in_closure(signs, b[0]) for signs, _ in lines)

    found = []
    for group in hang_together(flats, touch):
        area = sum(flat_area(points, wall[0]) for _, points in group)
        found.append(([order(point) for point in corners_of_part(body, group)], area))
    return [(pair(area), [tuple(map(pair, point)) for point in corners]) for corners, area in sorted(found)]
