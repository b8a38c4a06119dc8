"""One replica: what it has, what it says, what it does on a message."""

from oneleader.message import ABOUT_ENTRIES, ABOUT_VOTE, HAVE_THESE, VOTE_FOR_ME, Message

FOLLOWS = 0
STANDS = 1
LEADS = 2

MOST_ENTRIES_SENT = 4


class Replica:
    """A log is a list of (term, value); entry k of it, counted from 1, stands at k - 1."""

    def __init__(self, number, n):
        self.number = number
        self.n = n
        self.term = 0
        self.vote = 0
        self.log = []
        self.forget()

    def forget(self):
        # Term, vote and log are written down and outlast a crash: without its vote it could vote twice in one term.
        self.follow()
        self.settled = 0
        self.next_entry = [1] * self.n
        self.same = [0] * self.n

    def others(self):
        return [j for j in range(self.n) if j != self.number]

    def more_than_half(self, k):
        return self.n < 2 * k

    def term_of_entry(self, k):
        return 0 if k == 0 else self.log[k - 1][0]

    def last_term(self):
        return self.term_of_entry(len(self.log))

    def has_newer_log(self, length, term):
        own = self.last_term()
        return own > term or (own == term and len(self.log) > length)

    def stand(self):
        """Begins to stand in the next term; gives back what it says to the others."""
        self.term = self.term + 1
        self.role = STANDS
        self.vote = self.number + 1
        self.voters = [self.number]
        return [self.ask_for_vote(j) for j in self.others()]

    def ask_for_vote(self, j):
        return Message(VOTE_FOR_ME, self.number, j, self.term, len(self.log), self.last_term())

    def propose(self, value):
        self.log.append((self.term, value))
        return len(self.log)

    def beat(self):
        return [self.send_entries(j) for j in self.others()]

    def send_entries(self, j):
        a = self.next_entry[j] - 1
        entries = self.log[a:a + MOST_ENTRIES_SENT]
        return Message(HAVE_THESE, self.number, j, self.term, a, self.term_of_entry(a), self.settled, entries)

    def hear(self, message):
        """Does as told on a message; gives back the list of what it says on it."""
        if self.term < message.term:
            self.enter_term(message.term)
        if message.kind == VOTE_FOR_ME:
            return [self.hear_vote_for_me(message)]
        if message.kind == HAVE_THESE:
            return [self.hear_have_these(message)]
        if message.kind == ABOUT_VOTE:
            self.hear_about_vote(message)
        else:
            self.hear_about_entries(message)
        return []

    def enter_term(self, term):
        self.term = term
        self.vote = 0
        self.follow()

    def follow(self):
        self.role = FOLLOWS
        self.voters = []

    def reply(self, message, kind, a, b=0):
        return Message(kind, self.number, message.sender, self.term, a, b)

    def hear_vote_for_me(self, message):
        asker = message.sender + 1
        if self.term != message.term or self.vote not in (0, asker) or self.has_newer_log(message.a, message.b):
            return self.reply(message, ABOUT_VOTE, 0)
        self.vote = asker
        return self.reply(message, ABOUT_VOTE, 1)

    def hear_about_vote(self, message):
        if self.role != STANDS or self.term != message.term or message.a != 1:
            return
        if message.sender not in self.voters:
            self.voters.append(message.sender)
        if self.more_than_half(len(self.voters)):
            self.lead()

    def lead(self):
        self.role = LEADS
        self.next_entry = [len(self.log) + 1] * self.n
        self.same = [0] * self.n

    def hear_have_these(self, message):
        if message.term < self.term:
            return self.reply(message, ABOUT_ENTRIES, 0)
        self.follow()
        if len(self.log) < message.a or self.term_of_entry(message.a) != message.b:
            return self.reply(message, ABOUT_ENTRIES, 0)
        self.take_entries(message.a, message.entries)
        k = message.a + len(message.entries)
        self.settled = max(self.settled, min(message.c, k))
        return self.reply(message, ABOUT_ENTRIES, 1, k)

    def take_entries(self, a, entries):
        # A message may come late: what agrees with it stays, with all behind it, or newer entries would be cut off.
        for place, entry in enumerate(entries, start=a):
            if place == len(self.log) or self.log[place][0] != entry[0]:
                self.log = self.log[:place] + list(entries[place - a:])
                return

    def hear_about_entries(self, message):
        if self.role != LEADS or self.term != message.term:
            return
        j = message.sender
        if message.a == 1:
            self.same[j] = max(self.same[j], message.b)
            self.next_entry[j] = self.same[j] + 1
            self.settle()
        else:
            self.next_entry[j] = max(1, self.next_entry[j] - 1)

    def settle(self):
        # An entry of an earlier term may still be overwritten though more than half have it; only an own one settles.
        for k in range(len(self.log), self.settled, -1):
            if self.term_of_entry(k) == self.term and self.more_than_half(self.how_many_have(k)):
                self.settled = k
                return

    def how_many_have(self, k):
        return 1 + len([j for j in self.others() if self.same[j] >= k])
