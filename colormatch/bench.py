"""Benches: a lamp, filters and samples, with changes that can be undone, and trials."""

from colormatch.errors import BadReflectance, NoFilter, TooMany
from colormatch.observers import View, color_of, require_reflectance
from colormatch.reflectances import filtered

MOST_SAMPLES = 12
MOST_FILTERS = 4
MOST_CHANGES = 100
LIMIT = "limit"
EXHAUSTED = "exhausted"
REJECTED = "rejected"


class Bench:
    """Samples behind filters under the lamp of a view."""

    def __init__(self, view):
        self.view = view
        # Tuples that are replaced, never changed: who keeps one keeps it as it was.
        self._samples = ()
        self._filters = ()
        self._past = ()

    def __len__(self):
        return len(self._samples)

    def __iter__(self):
        return iter(self._samples)

    @property
    def change_count(self):
        """How many changes can be undone."""
        return len(self._past)

    def add_sample(self, reflectance):
        """Add a sample behind the others; how many there were before."""
        require_reflectance(self.view, reflectance)
        before = len(self._samples)
        if before >= MOST_SAMPLES:
            raise TooMany("a bench has at most 12 samples")
        self._keep_present()
        self._samples = self._samples + (reflectance,)
        return before

    def add_filter(self, reflectance):
        """Add a filter behind the others; how many there are then."""
        require_reflectance(self.view, reflectance)
        if len(self._filters) >= MOST_FILTERS:
            raise TooMany("a bench has at most 4 filters")
        self._keep_present()
        self._filters = self._filters + (reflectance,)
        return len(self._filters)

    def remove_filter(self):
        """Remove the last filter; how many there are then."""
        if len(self._filters) == 0:
            raise NoFilter("the bench has no filter")
        self._keep_present()
        self._filters = self._filters[:-1]
        return len(self._filters)

    def set_lamp(self, lamp):
        """Replace the lamp."""
        view = View(self.view.observer, lamp)
        self._keep_present()
        self.view = view

    def undo(self):
        """Undo the last change; False if there is none that can be undone."""
        if len(self._past) == 0:
            return False
        self.view, self._samples, self._filters = self._past[-1]
        self._past = self._past[:-1]
        return True

    def colors(self):
        """The colors of the samples behind all filters, under the lamp."""
        return [color_of(self.view, _behind(self._filters, sample)) for sample in self._samples]

    def groups(self):
        """Tuples of the numbers of samples with the same color."""
        shown = self.colors()
        return [
            tuple([other for other, another in enumerate(shown) if another == color])
            for number, color in enumerate(shown)
            if shown.index(color) == number
        ]

    def add_samples(self, most, values):
        """Add values as samples; how many were added, and the word for why no more."""
        count = 0
        for value in values:
            if count >= most:
                break
            try:
                self.add_sample(value)
            except (BadReflectance, TooMany):
                return (count, REJECTED)
            count += 1
        return (count, LIMIT if count >= most else EXHAUSTED)

    def tried(self):
        """A trial for a with statement, after which all is as it is now."""
        return Trial(self)

    def foresee(self, values):
        """What adding values as samples would give; the bench stays as it is."""
        with self.tried():
            return self.add_samples(MOST_SAMPLES, values)

    def _keep_present(self):
        """Keep the present state for undo, ahead of a change."""
        if len(self._past) >= MOST_CHANGES:
            raise TooMany("a bench has at most 100 changes that can be undone")
        self._past = self._past + ((self.view, self._samples, self._filters),)


class Trial:
    """A bench for a with statement; at its end the bench is as it was when the trial was made."""

    def __init__(self, bench):
        self._bench = bench
        self._view = bench.view
        self._samples = bench._samples
        self._filters = bench._filters
        self._past = bench._past

    def __enter__(self):
        return self._bench

    def __exit__(self, kind, value, trace):
        bench = self._bench
        bench.view = self._view
        bench._samples = self._samples
        bench._filters = self._filters
        bench._past = self._past


def _behind(filters, sample):
    """What is left of a sample behind all filters, band by band."""
    left = sample
    for screen in filters:
        left = filtered(left, screen)
    return left
