"""What replicas say to one another."""

VOTE_FOR_ME = 0
ABOUT_VOTE = 1
HAVE_THESE = 2
ABOUT_ENTRIES = 3


class Message:
    """One thing said. It is never changed, so that a doubled one may be the same object."""

    def __init__(self, kind, sender, receiver, term, a=0, b=0, c=0, entries=None):
        self.kind = kind
        self.sender = sender
        self.receiver = receiver
        self.term = term
        self.a = a
        self.b = b
        self.c = c
        self.entries = () if entries is None else tuple(entries)
