"""What the states want, and the changes to it that can be taken back and done again."""

from treatyjoin.wants import Want

CHANGES_KEPT = 20


class Treaty:
    """The one object of a line; it has no states until it is started."""

    def __init__(self):
        self.wants = ()
        # What all wanted before each change that can be taken back, and behind
        # each that can be done again; the nearest one lies last in both.
        self.past = []
        self.ahead = []

    def begin(self, n):
        self.wants = tuple([Want(0, 0) for i in range(n)])
        self.past = []
        self.ahead = []

    def change(self, wants):
        """Let that be what all want."""
        # The wants are a new tuple with each change, so what is kept stays as it was.
        self.past = (self.past + [self.wants])[-CHANGES_KEPT:]
        self.ahead = []
        self.wants = wants

    def take_back(self):
        self.ahead.append(self.wants)
        self.wants = self.past.pop()

    def do_again(self):
        self.past.append(self.wants)
        self.wants = self.ahead.pop()

    def has_state(self, i):
        return i < len(self.wants)

    def has_set(self, s):
        return s >> len(self.wants) == 0
