"""Walks round a circle: where their points stand, which of them hits a stretch first, and papers that none does."""

from digitway.errors import BadValue
from digitway.shapes import is_whole, want_whole

# Ten to 3,000: the greatest modulus and the most steps.
WALK_MOST = (10 ** 50) ** 60


class Search:
    """Looks for the first point of a walk from least to most, by the gaps that its points leave between them.

    Of the points 0 to ahead + behind less 1 the next above K is K + ahead, by rise, if K is less than behind, else
    K - behind, by fall. The point at is the last one ahead of what is looked for, which begins away above it.
    """

    def __init__(self, walk, least, most):
        start, step, modulus = walk
        # A step of 0 is taken as a whole round, so that the gap above the point 0 is the whole circle.
        self.rise = step if step > 0 else modulus
        self.fall = modulus - self.rise
        self.ahead = 1
        self.behind = 1
        self.at = 0
        self.away = (least - start) % modulus
        self.wide = most - least
        self.hit = None
        if self.away == 0 or self.away + self.wide >= modulus:
            self.hit = 0
        elif self.away <= self.rise <= self.away + self.wide:
            self.hit = 1
        elif self.rise < self.away:
            self.at = 1
            self.away -= self.rise

    def turns(self, stop):
        """How many times the wider gaps can be narrowed now; none above 0 where the search is over."""
        if self.hit is not None or self.fall in (0, self.rise):
            return 0
        if self.rise > self.fall:
            most, more = (self.rise - 1) // self.fall, self.behind
        else:
            most, more = (self.fall - 1) // self.rise, self.ahead
        # Points beyond the stop are wanted only as far as the gaps of those up to it need them.
        return most if stop is None else min(most, (stop - self.ahead - self.behind) // more + 1)

    def narrow(self, many):
        """Narrow the wider gaps so many times, or until there is a hit."""
        if self.rise > self.fall:
            turns = self.from_above(many) if self.at < self.behind else many
            self.ahead += turns * self.behind
            self.rise -= turns * self.fall
        else:
            turns = self.from_below(many) if self.at >= self.behind else many
            self.behind += turns * self.ahead
            self.fall -= turns * self.rise

    def from_above(self, many):
        """Let points into the gap, each lower than the last by fall; how many times, many or up to a hit."""
        turn = quotient_up(self.rise - self.away - self.wide, self.fall)
        if turn > many:
            return many
        step = self.at + self.ahead + turn * self.behind
        height = self.rise - turn * self.fall
        if height >= self.away:
            self.hit = step
            return turn
        self.at = step
        self.away -= height
        return many

    def from_below(self, many):
        """Let points into the gap, each higher than the last by rise; how many times, many or up to a hit."""
        turn = quotient_up(self.away, self.rise)
        passed = min(turn - 1, many)
        self.at += passed * self.ahead
        self.away -= passed * self.rise
        if turn <= many and self.rise <= self.away + self.wide:
            self.hit = self.at + self.ahead
            return turn
        return many


def stands_at(walk, steps):
    """The point of a walk behind so many steps."""
    want_walk(walk)
    want_whole(steps, 0, WALK_MOST, "steps")
    return point(walk, steps)


def first_hit(walk, least, most, *, stop=None):
    """The least step, up to stop if told, whose point is from least to most; None if none is."""
    want_stretch(walk, least, most, stop)
    return hit_of(walk, least, most, stop)


def gap_paper(walk, least, most, *, stop=None):
    """A paper that no step, up to stop if told, hits from least to most; None where one does."""
    want_stretch(walk, least, most, stop)
    return paper_of(walk, least, most, stop)


def is_walk(thing):
    """Whether anything is a walk."""
    return (
        isinstance(thing, tuple)
        and len(thing) == 3
        and is_whole(thing[2], 1, WALK_MOST)
        and is_whole(thing[0], 0, thing[2] - 1)
        and is_whole(thing[1], 0, thing[2] - 1)
    )


def want_walk(thing):
    """Refuse anything but a walk."""
    if not is_walk(thing):
        raise BadValue("walk")


def want_stretch(walk, least, most, stop):
    """Refuse anything but a walk, then what is no stretch of its circle, then what is no stop."""
    want_walk(walk)
    start, step, modulus = walk
    want_whole(least, 0, modulus - 1, "least")
    want_whole(most, least, modulus - 1, "most")
    if stop is not None:
        want_whole(stop, 0, WALK_MOST, "stop")


def point(walk, steps):
    """As stands_at, of what was let by, however many steps."""
    start, step, modulus = walk
    return (start + steps * step) % modulus


def hit_of(walk, least, most, stop):
    """As first_hit, of what was let by, or of a most beyond the modulus."""
    found = searched(walk, least, most, stop).hit
    return found if is_up_to(found, stop) else None


def paper_of(walk, least, most, stop):
    """As gap_paper, of what was let by, or of a most beyond the modulus."""
    search = searched(walk, least, most, stop)
    if is_up_to(search.hit, stop):
        return None
    at = search.at
    # The last points that narrowed the gaps may be beyond the stop: the one ahead of such a one isn't.
    if stop is not None and at > stop:
        at -= search.ahead
    return (search.ahead, search.rise, search.behind, search.fall, at)


def searched(walk, least, most, stop):
    """The search, as far as a hit, the stop or the end of all points."""
    search = Search(walk, least, most)
    many = search.turns(stop)
    while many > 0:
        search.narrow(many)
        many = search.turns(stop)
    return search


def is_up_to(step, stop):
    """Whether there is such a step and it isn't beyond the stop."""
    return step is not None and (stop is None or step <= stop)


def quotient_up(number, by):
    """The least whole number that isn't less than the quotient."""
    return -(-number // by)
