"""Desks: a style, the checks that stand beside an amount, and the limits of alterations."""

from math import lcm

from addedink.errors import InvalidCheck, InvalidLimit


def is_check(check):
    """Tell whether a tuple that begins with a string is a check."""
    kind = check[0]
    if kind == "rest":
        return len(check) == 3 and check[1] >= 2 and len(check[2]) > 0
    if kind == "copy":
        return len(check) == 2
    return kind == "count" and len(check) == 1


def fresh_check(check):
    """Return an equal tuple with lists of its own."""
    return tuple([list(entry) if isinstance(entry, list) else entry for entry in check])


def fresh_checks(checks):
    """Return an equal list of checks that shares no list with it."""
    return [fresh_check(check) for check in checks]


def require_checks(checks):
    """Raise InvalidCheck for the first tuple that is no check."""
    for check in checks:
        if not is_check(check):
            raise InvalidCheck(fresh_check(check))


def require_limit(limit, least):
    """Raise InvalidLimit if a limit is less than the least one; None is no limit."""
    if limit is not None and limit < least:
        raise InvalidLimit(limit)


def checks_of(desk, kind):
    """Return the checks of a desk that are of one kind, in order."""
    return [check for check in desk.checks if check[0] == kind]


def styles_of(desk):
    """Return the style of a desk and, behind it, those of its copies."""
    return [desk.style] + [check[1] for check in checks_of(desk, "copy")]


class Desk:
    """A style, checks and limits. It never changes."""

    def __init__(self, style, checks, *, free=0, most=None, raised=False):
        require_checks(checks)
        require_limit(free, 0)
        require_limit(most, 1)
        self._style = style
        self._checks = fresh_checks(checks)
        self._free = free
        self._most = most
        self._raised = raised

    @property
    def style(self):
        """The style in which amounts are written."""
        return self._style

    @property
    def checks(self):
        """The list of the checks."""
        return fresh_checks(self._checks)

    @property
    def free(self):
        """How many blank cells can be written in, None if any number."""
        return self._free

    @property
    def most(self):
        """How many cells may be altered, None if any number."""
        return self._most

    @property
    def raised(self):
        """Whether only alterations to a greater amount count."""
        return self._raised

    @property
    def period(self):
        """The least common multiple of the numbers of weights of the rest checks."""
        cells = 1
        for check in self._checks:
            if check[0] == "rest":
                cells = lcm(cells, len(check[2]))
        return cells

    def with_checks(self, checks):
        """Return the desk with these checks behind its own."""
        together = self._checks + checks
        return Desk(self._style, together, free=self._free, most=self._most, raised=self._raised)

    def with_style(self, style):
        """Return the desk with another style."""
        return Desk(style, self._checks, free=self._free, most=self._most, raised=self._raised)

    def with_limits(self, *, free, most, raised):
        """Return the desk with these limits."""
        return Desk(self._style, self._checks, free=free, most=most, raised=raised)

    def __eq__(self, other):
        return (
            isinstance(other, Desk)
            and self._style == other._style
            and self._checks == other._checks
            and self._free == other._free
            and self._most == other._most
            and self._raised == other._raised
        )
