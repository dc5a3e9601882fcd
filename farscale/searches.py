"""Searches for maps from one space to another one."""

from farscale.maps import made_map
from farscale.spaces import check_scales


def all_maps(source, target):
    """The list of all maps from source to target, ascending by the places of the images."""
    check_scales(source, target)
    scale = source.scale

    def may_lead(grade, image):
        return scale.within(grade, image)

    return _maps(source, target, _image_lists(source, target, may_lead))


def renaming(first, second):
    """A map that keeps all grades and leads just one point to each point; None if there is none."""
    check_scales(first, second)
    if len(first) != len(second):
        return None

    def may_lead(grade, image):
        return grade == image

    found = _maps(first, second, _image_lists(first, second, may_lead, once=True, most=1))
    return found[0] if found else None


def _maps(source, target, found):
    """The maps that the lists of places stand for."""
    points = target.points()
    return [made_map(source, target, [points[place] for place in images]) for images in found]


def _image_lists(source, target, may_lead, once=False, most=None):
    """Lists of the places of images in which each grade may lead to that of the images, ascending.

    With once, no point is the image of two. With most, the search ends when it has so many lists.
    """
    source_rows = source.rows()
    target_rows = target.rows()
    found = []
    # A list that is taken from the end has its longer ones put there: so they come in order.
    waiting = [[]]
    while waiting and (most is None or len(found) < most):
        images = waiting.pop()
        if len(images) == len(source_rows):
            found.append(images)
        else:
            for place in reversed(range(len(target_rows))):
                longer = [*images, place]
                if not (once and place in images) and _last_fits(source_rows, target_rows, longer, may_lead):
                    waiting.append(longer)
    return found


def _last_fits(source_rows, target_rows, images, may_lead):
    """True if the grades of the last point, to and from each point so far, may lead to those of the images."""
    last = len(images) - 1
    image = images[last]
    for place, other in enumerate(images):
        if not may_lead(source_rows[place][last], target_rows[other][image]):
            return False
        if not may_lead(source_rows[last][place], target_rows[image][other]):
            return False
    return True
