"""A book of told bounds: steps, and caps that no path of steps may go beyond."""

from farscale.errors import Clash, NothingDone, NotTold
from farscale.spaces import check_name
from farscale.told import check_points, check_step, closed_space, path_beyond, paths_of, space_with_step, told_space


class Book:
    """Told steps and caps that hold together, each of which can be taken back."""

    def __init__(self, scale, points):
        self.scale = scale
        # Three values that are never changed but replaced, so that earlier ones can be kept:
        # the told space of the steps, and the steps and the caps by their names.
        self._space = told_space(scale, points, [])
        self._steps = {}
        self._caps = {}
        self._earlier = []

    def points(self):
        """The list of the points in order."""
        return self._space.points()

    def step(self, name, x, y, grade):
        """Tells that x is at least so near to y."""
        self._check_bound(name, x, y, grade)
        self._tell({**self._steps, name: (x, y, grade)}, self._caps, space_with_step(self._space, x, y, grade))

    def cap(self, name, x, y, grade):
        """Tells that x is at most so near to y."""
        self._check_bound(name, x, y, grade)
        self._tell(self._steps, {**self._caps, name: (x, y, grade)}, self._space)

    def _check_bound(self, name, x, y, grade):
        check_name(name, self._told_names())
        check_step(self.scale, self.points(), x, y, grade)

    def _told_names(self):
        return list(self._steps) + list(self._caps)

    def _tell(self, steps, caps, space):
        """Turns to these bounds, or raises Clash if they do not hold together."""
        name = self._broken_cap(caps, space)
        if name is not None:
            x, y, grade = caps[name]
            told = list(steps)
            path = path_beyond(self.scale, list(steps.values()), x, y, grade)
            raise Clash(name, [told[number] for number in path])
        self._turn(steps, caps, space)

    def _broken_cap(self, caps, space):
        """The name of the first cap that is less near than the space; None if there is none."""
        for name, (x, y, grade) in caps.items():
            if not self.scale.within(space.near(x, y), grade):
                return name
        return None

    def _turn(self, steps, caps, space):
        """Takes these for the bounds and their space; what they were before can be taken back to."""
        self._earlier.append((self._steps, self._caps, self._space))
        self._steps, self._caps, self._space = steps, caps, space

    def drop(self, name):
        """Takes a step or a cap back."""
        if name in self._caps:
            self._turn(self._steps, _without(self._caps, name), self._space)
        elif name in self._steps:
            steps = _without(self._steps, name)
            self._turn(steps, self._caps, closed_space(self.scale, self.points(), list(steps.values())))
        else:
            raise NotTold(name)

    def undo(self):
        """Takes the last change back that was not taken back yet."""
        if not self._earlier:
            raise NothingDone()
        self._steps, self._caps, self._space = self._earlier.pop()

    def attempt(self, action):
        """What the action returns for the book; if an error leaves it, the book is as it was before."""
        steps, caps, space = self._steps, self._caps, self._space
        earlier = list(self._earlier)
        done = None
        try:
            result = action(self)
            done = True
            return result
        finally:
            if done is None:
                self._steps, self._caps, self._space = steps, caps, space
                self._earlier = earlier

    def steps(self):
        """The list of the told steps (name, x, y, grade)."""
        return [(name, *bound) for name, bound in self._steps.items()]

    def caps(self):
        """The list of the told caps (name, x, y, grade)."""
        return [(name, *bound) for name, bound in self._caps.items()]

    def shown(self):
        """The told space of the steps."""
        return self._space

    def reach(self, x, y):
        """How near x is to y by the told steps."""
        return self._space.near(x, y)

    def why(self, x, y):
        """Paths, as lists of names, none of them to spare, that make x as near to y as it is."""
        names = list(self._steps)
        paths = paths_of(self.scale, self.points(), list(self._steps.values()), x, y)
        return [[names[number] for number in path] for path in paths]

    def slack(self, x, y):
        """The list of the grades of steps from x to y that could be told without Clash."""
        check_points(self.points(), [x, y])
        return [grade for grade in self.scale.grades()
                if self._broken_cap(self._caps, space_with_step(self._space, x, y, grade)) is None]

    def __contains__(self, name):
        return name in self._told_names()

    def __len__(self):
        return len(self._told_names())


def _without(bounds, name):
    """The bounds but for the one with this name."""
    return {told: bound for told, bound in bounds.items() if told != name}
