"""The points of procedures: what they name, and the same points under other names."""


def targets_of(point):
    """Return the list of the indexes of points that a point names, in the order of the point."""
    word = point[0]
    if word == "draw":
        return [index for _, index in point[1]]
    if word == "choose":
        return list(point[1])
    if word == "call":
        return list(point[2])
    if word == "reward":
        return [point[2]]
    return []


def moved_point(point, procedures, points):
    """Return the point with the new indexes that two tables give for procedures and points."""
    word = point[0]
    if word == "draw":
        return (word, tuple([(chance, points[index]) for chance, index in point[1]]))
    if word == "choose":
        return (word, tuple([points[index] for index in point[1]]))
    if word == "call":
        return (word, procedures[point[1]], tuple([points[index] for index in point[2]]))
    if word == "reward":
        return (word, point[1], points[point[2]])
    return point
