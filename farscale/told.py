"""Spaces told by steps, and the paths that make their grades."""

from farscale.errors import BadPath, UnknownGrade, UnknownPoint
from farscale.spaces import check_names, made_space


def check_points(points, asked):
    """UnknownPoint for the first that is asked for and is none of the points."""
    for point in asked:
        if point not in points:
            raise UnknownPoint(point)


def check_step(scale, points, x, y, grade):
    """UnknownPoint or UnknownGrade unless the step leads between two of the points."""
    check_points(points, [x, y])
    if grade not in scale:
        raise UnknownGrade(grade)


def _check_told(scale, points, steps):
    check_names(points)
    for x, y, grade in steps:
        check_step(scale, points, x, y, grade)


def told_space(scale, points, steps):
    """The least space on the points in which the grade of each step lies within near(x, y)."""
    _check_told(scale, points, steps)
    return closed_space(scale, points, steps)


def closed_space(scale, points, steps):
    """The told space of points and steps that are known to be right, whatever the names of the points."""
    rows = _step_rows(scale, points, steps)
    for place in range(len(points)):
        rows = _rows_by_way_of(scale, rows, place)
    for place in range(len(points)):
        rows[place][place] = scale.join(scale.unit, rows[place][place])
    return made_space(scale, points, rows)


def space_with_step(space, x, y, grade):
    """The told space of the steps of a told space and one step more."""
    scale = space.scale
    points = space.points()
    # A path takes the further step once, or goes back to its beginning any number of times.
    often = scale.then(grade, _rounds(scale, scale.then(space.near(y, x), grade)))
    ahead = [scale.then(space.near(point, x), often) for point in points]
    behind = [space.near(y, point) for point in points]
    rows = [[scale.join(near, scale.then(to_x, from_y)) for near, from_y in zip(row, behind)]
            for row, to_x in zip(space.rows(), ahead)]
    return made_space(scale, points, rows)


def _step_rows(scale, points, steps):
    """The join of the grades of the steps from each point to each point."""
    places = {point: place for place, point in enumerate(points)}
    rows = [[scale.none] * len(points) for _ in points]
    for x, y, grade in steps:
        row = rows[places[x]]
        row[places[y]] = scale.join(row[places[y]], grade)
    return rows


def _rows_by_way_of(scale, rows, place):
    """The grades when paths may also pass through the point at this place, as often as they like.

    Once each point has had its turn, all paths have been joined: those through the point are
    the ways to it, any number of rounds back to it, and the ways from it.
    """
    rounds = _rounds(scale, rows[place][place])
    found = []
    for row in rows:
        ahead = scale.then(row[place], rounds)
        found.append([scale.join(grade, scale.then(ahead, behind)) for grade, behind in zip(row, rows[place])])
    return found


def _rounds(scale, grade):
    """The join of unit, the grade, the grade then the grade, and so on."""
    found = scale.unit
    # Each turn gives a nearer grade or the same for good, so as many turns as there are grades do.
    for _ in scale.grades():
        found = scale.join(found, scale.then(found, grade))
    return found


def paths_of(scale, points, steps, x, y):
    """Paths from x to y, none of them to spare, the join of whose products is near(x, y) in the told space."""
    _check_told(scale, points, steps)
    check_points(points, [x, y])
    last_steps = _last_steps(scale, steps, x)
    grades = [grade for point, grade in last_steps if point == y]
    return [_path_to(last_steps, y, grade) for grade in _needed(scale, grades)]


def path_beyond(scale, steps, x, y, grade):
    """The numbers of the steps of a path from x to y whose product does not lie within the grade.

    There must be such a path; it has the fewest steps.
    """
    last_steps = _last_steps(scale, steps, x)
    products = [product for point, product in last_steps if point == y and not scale.within(product, grade)]
    return _path_to(last_steps, y, products[0])


def _last_steps(scale, steps, start):
    """The points and grades to which paths from the start lead, those with the fewest steps first.

    The keys are (point, product of a path to it). The value is the last step of a shortest such
    path and the key that the path has reached before it, None for the empty path. As there are
    finitely many keys, paths that go round need not be told apart from others.
    """
    found = {(start, scale.unit): None}
    front = list(found)
    while front:
        reached = []
        for key in front:
            for number, longer in _next_keys(scale, steps, key):
                if longer not in found:
                    found[longer] = (number, key)
                    reached.append(longer)
        front = reached
    return found


def _next_keys(scale, steps, key):
    """The numbers of the steps that go on from a point and a grade, each with the point and grade it leads to."""
    point, product = key
    return [(number, (y, scale.then(product, grade))) for number, (x, y, grade) in enumerate(steps) if x == point]


def _path_to(last_steps, point, grade):
    """The numbers of the steps of the path that is kept for the point and the grade."""
    path = []
    last = last_steps[(point, grade)]
    while last is not None:
        number, key = last
        path.append(number)
        last = last_steps[key]
    return path[::-1]


def _needed(scale, grades):
    """Those of the grades that have the same join as all of them and of which none is to spare."""
    whole = scale.joined(grades)
    kept = grades
    # From the last one on, for it has the longest path.
    for grade in reversed(grades):
        rest = [other for other in kept if other != grade]
        if scale.joined(rest) == whole:
            kept = rest
    return kept


def judge_paths(scale, points, steps, x, y, paths):
    """The join of the products of paths from x to y."""
    _check_told(scale, points, steps)
    check_points(points, [x, y])
    for number, path in enumerate(paths):
        if not _leads(steps, path, x, y):
            raise BadPath(number)
    return scale.joined([_product(scale, steps, path) for path in paths])


def _leads(steps, path, x, y):
    """True if each step of the path begins where the one before it ends, from x on, to y."""
    point = x
    for number in path:
        if not 0 <= number < len(steps) or steps[number][0] != point:
            return False
        point = steps[number][1]
    return point == y


def _product(scale, steps, path):
    """The product of the grades of a path in order."""
    product = scale.unit
    for number in path:
        product = scale.then(product, steps[number][2])
    return product
