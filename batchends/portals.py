"""Portals: statements with values for their parameters, which are run in portions."""


class Portal:
    """A portal. Its rows are None until its statement has returned rows."""

    def __init__(self, parts):
        self.parts = parts
        self.rows = None
        self.ended = False

    def portion(self, most):
        """Returns the reply with the next rows: at most so many, or all if most is 0."""
        many = most if most > 0 else len(self.rows)
        rows = list(self.rows[:many])
        self.rows = self.rows[many:]
        self.ended = len(self.rows) == 0
        return ("rows", rows, not self.ended)
