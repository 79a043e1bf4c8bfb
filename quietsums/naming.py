"""New names for what the package itself draws and makes."""


class FreshNames:
    """Names that are not taken: a stem and a number."""

    def __init__(self, stem, taken):
        self._stem = stem
        self._taken = {name: True for name in taken}
        self._count = 0

    def fresh(self):
        """Return a name that is neither taken nor returned before."""
        self._count += 1
        while self._present() in self._taken:
            self._count += 1
        return self._present()

    def _present(self):
        return f"{self._stem}{self._count}"
