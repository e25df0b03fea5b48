"""Series that stay as they are, whatever becomes of the ones that were given or told (point 0.2)."""


def attributes(series):
    """The values that a series was made of."""
    return series.zone, series.rule, series.unit, series.length, series.dropped, series.moved


class Kept:
    """A series of one's own, beside the one that is told to others."""

    def __init__(self, series):
        self.own = series.copy()
        self._told = series

    def told(self):
        """A series with the values that were given; the same one each time, unless somebody has altered it."""
        if attributes(self._told) != attributes(self.own):
            self._told = self.own.copy()
        return self._told


def told_entry(entry):
    """What is told of a booking, of its kept series, its resources and its guests; None if there is none."""
    if entry is None:
        return None
    kept, resources, guests = entry
    return kept.told(), resources, guests


def told_changes(changes):
    """The changes with what is told of each entry (point 8.3)."""
    return tuple([(name, version, told_entry(entry)) for name, version, entry in changes])
