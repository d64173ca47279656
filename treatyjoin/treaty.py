"""What the states want, and the changes to it that can be taken back."""

from treatyjoin.wants import Want

CHANGES_KEPT = 20


class Treaty:
    """The one object of a line; it has no states until it is started."""

    def __init__(self):
        self.wants = ()
        self.past = []

    def begin(self, n):
        self.wants = tuple([Want(0, 0) for i in range(n)])
        self.past = []

    def change(self, i, want):
        """Let state i want that; what all wanted before is kept, to be taken back."""
        # The wants are a new tuple with each change, so what is kept stays as it was.
        self.past = (self.past + [self.wants])[-CHANGES_KEPT:]
        self.wants = self.wants[:i] + (want,) + self.wants[i + 1:]

    def has_state(self, i):
        return i < len(self.wants)

    def has_set(self, s):
        return s >> len(self.wants) == 0
