"""Scales of grades, and those that are told by tables."""

from farscale.errors import BadScale, UnknownGrade

MOST_GRADES = 16
LONGEST_NAME = 12
NAME_MARKS = "abcdefghijklmnopqrstuvwxyz0123456789"


def is_plain_name(name):
    """True if the string has 1 to 12 characters from a to z and 0 to 9."""
    return 1 <= len(name) <= LONGEST_NAME and all([mark in NAME_MARKS for mark in name])


def check_count(count):
    """BadScale unless a scale may have so many grades."""
    if not 1 <= count <= MOST_GRADES:
        raise BadScale()


def _check_names(names):
    check_count(len(names))
    for place, name in enumerate(names):
        if not is_plain_name(name) or name in names[:place]:
            raise BadScale()


def _check_rows(names, rows):
    if len(rows) != len(names):
        raise BadScale()
    for row in rows:
        if len(row) != len(names) or not all([entry in names for entry in row]):
            raise BadScale()


def _by_name(names, rows):
    """The entries of the rows by the names of their row and column."""
    return {name: dict(zip(names, row)) for name, row in zip(names, rows)}


def _entry(table, first, second):
    """The entry of a table by names; UnknownGrade for the first of the two that it has not."""
    if first not in table:
        raise UnknownGrade(first)
    row = table[first]
    if second not in row:
        raise UnknownGrade(second)
    return row[second]


class Scale:
    """Grades of nearness with a join, a product, none and unit: the base of all scales."""

    def __init__(self, names, joins, products, none, unit):
        """The tables are rows of names, in the order of the names; nothing of them is kept."""
        self.none = none
        self.unit = unit
        self._names = list(names)
        self._joins = _by_name(names, joins)
        self._products = _by_name(names, products)
        # Worked out here and only looked up later: spaces and tables ask for these
        # over and over, and what an operator asks must not change the scale.
        below = {b: [a for a in names if self._joins[a][b] == b] for b in names}
        self._meets = {a: {b: self._meet(below, a, b) for b in names} for a in names}
        self._unders = {a: {b: self._under(below, a, b) for b in names} for a in names}
        self._overs = {b: {a: self._over(below, b, a) for a in names} for b in names}

    def _meet(self, below, a, b):
        return self.joined([c for c in below[a] if c in below[b]])

    def _under(self, below, a, b):
        return self.joined([c for c in self._names if self._products[a][c] in below[b]])

    def _over(self, below, b, a):
        return self.joined([c for c in self._names if self._products[c][a] in below[b]])

    def grades(self):
        """The list of the grades in order."""
        return list(self._names)

    def join(self, first, second):
        """The join of two grades."""
        return _entry(self._joins, first, second)

    def then(self, first, second):
        """The product of two grades: the first one, then the second one."""
        return _entry(self._products, first, second)

    def within(self, first, second):
        """True if the second grade is at least as near as the first one."""
        return self.join(first, second) == second

    def meet(self, first, second):
        """The greatest grade that lies within both; for regular scales."""
        return _entry(self._meets, first, second)

    def under(self, first, second):
        """The greatest grade c for which first then c lies within second; for regular scales."""
        return _entry(self._unders, first, second)

    def over(self, first, second):
        """The greatest grade c for which c then second lies within first; for regular scales."""
        return _entry(self._overs, first, second)

    def joined(self, grades):
        """The join of a list of grades, from none on."""
        result = self.none
        for grade in grades:
            result = self.join(result, grade)
        return result

    def top(self):
        """The join of all grades, within which each grade lies: the meet of no grades."""
        return self.joined(self._names)

    def meets(self, first, second):
        """The meets of two lists of grades, entry by entry; for regular scales."""
        # Straight from the table, for searches for closed pairs ask for meets by the million.
        return [self._meets[a][b] for a, b in zip(first, second)]

    def __eq__(self, other):
        return (isinstance(other, Scale) and self._names == other._names
                and self._joins == other._joins and self._products == other._products
                and self.none == other.none and self.unit == other.unit)

    def __contains__(self, grade):
        return grade in self._names


class TableScale(Scale):
    """A scale whose names, joins and products are handed in; it need not be regular."""

    def __init__(self, names, joins, products, *, none, unit):
        _check_names(names)
        _check_rows(names, joins)
        _check_rows(names, products)
        if none not in names or unit not in names:
            raise BadScale()
        Scale.__init__(self, names, joins, products, none, unit)
