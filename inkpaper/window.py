"""Points told by the greys around them."""

from inkpaper.scan import INK, PAPER, UNCLEAR

MOST_RADIUS = 64
WHITE = 255


class Window:
    """How many points a window has, and the sum of their greys."""

    def __init__(self, size, total):
        self.size = size
        self.total = total


class Rule:
    """A window's radius, and the bounds by which a point is told."""

    def __init__(self, radius, dark, light, below, near):
        self.radius = radius
        self.dark = dark
        self.light = light
        self.below = below
        self.near = near

    def is_so(self):
        """Whether there is such a rule; dark and near are bounded by light and below."""
        return (self.radius <= MOST_RADIUS and self.light <= WHITE and self.below <= WHITE
                and self.dark < self.light and self.near <= self.below)

    def kind_of(self, grey, window):
        """The kind of a point of that grey with that window around it."""
        if grey <= self.dark:
            return INK
        if grey >= self.light:
            return PAPER
        # Never by the mean itself: a division would round it.
        if window.size * (grey + self.below) <= window.total:
            return INK
        if window.total <= window.size * (grey + self.near):
            return PAPER
        return UNCLEAR


class Sums:
    """Sums over a picture's windows: four lookups each, however large the window is."""

    def __init__(self, rows):
        self.width = len(rows[0])
        self.height = len(rows)
        self.corners = corner_sums(rows)

    def window_of(self, x, y, radius):
        left = max(x - radius, 0)
        right = min(x + radius + 1, self.width)
        top = max(y - radius, 0)
        bottom = min(y + radius + 1, self.height)
        above = self.corners[top]
        through = self.corners[bottom]
        total = through[right] - through[left] - above[right] + above[left]
        return Window((right - left) * (bottom - top), total)


def corner_sums(rows):
    """Lists of which entry x of list y is the sum of the greys left of column x in the rows above row y."""
    above = [0] * (len(rows[0]) + 1)
    corners = [above]
    for row in rows:
        along = 0
        through = [0]
        for x, grey in enumerate(row):
            along += grey
            through.append(above[x + 1] + along)
        corners.append(through)
        above = through
    return corners


def tell_rows(rule, rows):
    """Give the rows of points that the rule tells of these rows of greys."""
    sums = Sums(rows)
    return [tell_row(rule, sums, y, row) for y, row in enumerate(rows)]


def tell_row(rule, sums, y, row):
    return [rule.kind_of(grey, sums.window_of(x, y, rule.radius)) for x, grey in enumerate(row)]
