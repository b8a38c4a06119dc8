"""Whole lines of all thirteen calls: every number that is answered is held against the document, told a second time.

Told holds what the document says in another form than the program: plain dicts, one method for each sentence, and every
refusal asked for in the order in which it is told.
"""

import unittest

from tests.helper import (FULL, LARGEST, MOST_VALUE, NONE, ROLE, WRONG, Numbers, beat, begin, copy, crash, deliver, led,
                          log, look, lose, message, net, propose, settled, stand, told)

CALLS = (begin, stand, propose, beat, deliver, lose, copy, crash, look, log, settled, net, message)


class Told:
    def __init__(self):
        self.n = 0
        self.all = []
        self.net = []
        self.said = 0

    def answer(self, call):
        return (self.begin, self.stand, self.propose, self.beat, self.deliver, self.lose, self.copy, self.crash,
                self.look, self.log, self.settled, self.tell_net, self.message)[call[0]](*call[1:])

    def begin(self, n):
        if n != 3 and n != 5:
            return [-1]
        self.n, self.net, self.said = n, [], 0
        self.all = [dict(me=i, term=0, vote=0, log=[]) for i in range(n)]
        for r in self.all:
            self.as_at_first(r)
        return [n]

    def as_at_first(self, r):
        r.update(role=0, settled=0, voters=[], next={j: 1 for j in range(self.n)}, same={j: 0 for j in range(self.n)})

    def last_term(self, r):
        return r["log"][-1][0] if r["log"] else 0

    def say(self, r, kind, to, a=0, b=0, c=0, entries=()):
        self.said += 1
        self.net.append(dict(number=self.said, kind=kind, by=r["me"], to=to, term=r["term"], a=a, b=b, c=c,
                             entries=[tuple(entry) for entry in entries]))

    def find(self, m):
        return next((x for x in self.net if x["number"] == m), None)

    def stand(self, i):
        if i >= self.n:
            return [-4]
        r = self.all[i]
        if r["role"] == 2:
            return [-3]
        if r["term"] + 1 >= 65536 or len(self.net) + self.n - 1 > 64:
            return [-6]
        r.update(term=r["term"] + 1, role=1, vote=i + 1, voters=[i])
        for j in range(self.n):
            if j != i:
                self.say(r, 0, j, len(r["log"]), self.last_term(r))
        return [r["term"]]

    def propose(self, i, v):
        if i >= self.n:
            return [-4]
        r = self.all[i]
        if v >= 2 ** 32:
            return [-1]
        if r["role"] != 2:
            return [-3]
        if len(r["log"]) >= 32:
            return [-6]
        r["log"] = r["log"] + [(r["term"], v)]
        return [len(r["log"])]

    def beat(self, i):
        if i >= self.n:
            return [-4]
        r = self.all[i]
        if r["role"] != 2:
            return [-3]
        if len(self.net) + self.n - 1 > 64:
            return [-6]
        for j in range(self.n):
            if j != i:
                a = r["next"][j] - 1
                self.say(r, 2, j, a, ([(0, 0)] + r["log"])[a][0], r["settled"], r["log"][a:][:4])
        return [self.n - 1]

    def deliver(self, m):
        x = self.find(m)
        if x is None:
            return [-4]
        before = self.said
        self.net.remove(x)
        r = self.all[x["to"]]
        if r["term"] < x["term"]:
            r.update(term=x["term"], vote=0, role=0, voters=[])
        (self.asked, self.voted, self.have, self.had)[x["kind"]](r, x)
        return [self.said - before]

    def asked(self, r, x):
        own = (self.last_term(r), len(r["log"]))
        yes = r["term"] == x["term"] and r["vote"] in (0, x["by"] + 1) and own <= (x["b"], x["a"])
        if yes:
            r["vote"] = x["by"] + 1
        self.say(r, 1, x["by"], 1 if yes else 0)

    def voted(self, r, x):
        if r["role"] == 1 and r["term"] == x["term"] and x["a"] == 1:
            if x["by"] not in r["voters"]:
                r["voters"] = r["voters"] + [x["by"]]
            if self.n < 2 * len(r["voters"]):
                r["role"] = 2
                for j in range(self.n):
                    r["next"][j], r["same"][j] = len(r["log"]) + 1, 0

    def have(self, r, x):
        if x["term"] < r["term"]:
            return self.say(r, 3, x["by"])
        r.update(role=0, voters=[])
        own, a, came = r["log"], x["a"], x["entries"]
        if len(own) < a or ([(0, 0)] + own)[a][0] != x["b"]:
            return self.say(r, 3, x["by"])
        alike = 0
        while alike < len(came) and a + alike < len(own) and own[a + alike][0] == came[alike][0]:
            alike += 1
        if alike < len(came):
            r["log"] = own[:a + alike] + came[alike:]
        k = a + len(came)
        r["settled"] = max(r["settled"], min(x["c"], k))
        return self.say(r, 3, x["by"], 1, k)

    def had(self, r, x):
        if r["role"] != 2 or r["term"] != x["term"]:
            return
        j = x["by"]
        if x["a"] == 0:
            r["next"][j] = max(r["next"][j] - 1, 1)
            return
        r["same"][j] = max(r["same"][j], x["b"])
        r["next"][j] = r["same"][j] + 1
        fit = [k for k in range(1, len(r["log"]) + 1) if r["log"][k - 1][0] == r["term"] and
               self.n < 2 * sum(1 for j in range(self.n) if j == r["me"] or r["same"][j] >= k)]
        r["settled"] = max(fit + [r["settled"]])

    def lose(self, m):
        x = self.find(m)
        if x is None:
            return [-4]
        self.net.remove(x)
        return [0]

    def copy(self, m):
        x = self.find(m)
        if x is None:
            return [-4]
        if len(self.net) >= 64:
            return [-6]
        self.said += 1
        self.net.append(dict(x, number=self.said))
        return [self.said]

    def crash(self, i):
        if i >= self.n:
            return [-4]
        self.as_at_first(self.all[i])
        return [0]

    def look(self, i):
        if i >= self.n:
            return [-4]
        r = self.all[i]
        n = self.n
        return [r["role"], 4, r["term"], r["vote"], len(r["log"]), r["settled"], len(r["voters"]), *r["voters"],
                n, *[r["next"][j] for j in range(n)], n, *[r["same"][j] for j in range(n)]]

    def log(self, i):
        return [-4] if i >= self.n else self.entries(self.all[i]["log"])

    def settled(self, i):
        return [-4] if i >= self.n else self.entries(self.all[i]["log"][:self.all[i]["settled"]])

    def entries(self, entries):
        return [len(entries), 2 * len(entries), *[number for entry in entries for number in entry]]

    def tell_net(self):
        return [len(self.net), len(self.net), *[x["number"] for x in self.net]]

    def message(self, m):
        x = self.find(m)
        if x is None:
            return [-4]
        return [x["kind"], 8, x["number"], x["kind"], x["by"], x["to"], x["term"], x["a"], x["b"], x["c"],
                *self.entries(x["entries"])[1:]]


# How often each call comes, of the thirteen in order: a line as it goes, one that fills what is under way, one that
# fills logs, one in which much crashes, and one that mostly asks.
MIXES = ((1, 12, 20, 40, 200, 20, 12, 6, 8, 8, 8, 8, 8), (0, 40, 5, 40, 30, 8, 60, 2, 3, 3, 3, 6, 6),
         (0, 6, 120, 40, 200, 4, 2, 1, 6, 6, 6, 4, 4), (1, 40, 20, 40, 160, 10, 8, 40, 10, 8, 8, 6, 6),
         (2, 10, 20, 20, 90, 6, 6, 4, 60, 60, 60, 40, 60))


def pick(numbers, mix):
    at = numbers.below(sum(mix))
    for call, weight in enumerate(mix):
        if at < weight:
            return call
        at -= weight
    raise AssertionError("no call")


def odd_number(numbers, edge):
    return (edge, edge + 1, 2 ** 31, 2 ** 32 + edge, LARGEST, LARGEST - edge)[numbers.below(6)]


def some_replica(numbers, doc, leads):
    if numbers.below(40) == 0:
        return odd_number(numbers, doc.n)
    leaders = [r["me"] for r in doc.all if r["role"] == 2]
    if leads and leaders and numbers.below(8):
        return leaders[numbers.below(len(leaders))]
    return numbers.below(doc.n) if doc.n else numbers.below(6)


def some_message(numbers, doc):
    if numbers.below(40) == 0:
        return odd_number(numbers, doc.said + 1)
    if not doc.net or numbers.below(30) == 0:
        return numbers.below(doc.said + 2)
    return doc.net[numbers.below(len(doc.net))]["number"]


def some_value(numbers):
    if numbers.below(9) == 0:
        return (0, 7, MOST_VALUE, MOST_VALUE + 1, LARGEST)[numbers.below(5)]
    return numbers.below(999)


def random_call(numbers, doc, mix):
    name = CALLS[pick(numbers, mix)]
    if name is begin:
        return begin((3, 5, 3, 5, 4, 0, 6, LARGEST)[numbers.below(8)])
    if name is net:
        return net()
    if name is propose:
        return propose(some_replica(numbers, doc, True), some_value(numbers))
    if name in (deliver, lose, copy, message):
        return name(some_message(numbers, doc))
    return name(some_replica(numbers, doc, name is beat))


def random_line(seed, length):
    """A line, and what the document has each of its calls answer."""
    numbers = Numbers(seed)
    doc = Told()
    line, answered = [], []
    mix = MIXES[seed % len(MIXES)]
    while len(line) < length:
        # Some lines go on for a while before there are replicas.
        if doc.n == 0 and (seed % 7 or len(line) >= 10):
            call = begin(5 if numbers.below(2) else 3)
        else:
            call = random_call(numbers, doc, mix)
        line.append(call)
        answered.append(doc.answer(call))
    return line, answered


class TestLines(unittest.TestCase):
    def test_every_answer_is_as_told(self):
        seen = {}
        for seed in range(400):
            line, answered = random_line(seed, 200)
            self.assertEqual(told(*line), answered, seed)
            for call, given in zip(line, answered):
                key = (call[0], given[0] if given[0] < 0 else 0)
                seen[key] = seen.get(key, 0) + 1
        self.assertEqual(sorted(seen), sorted(
            [(call, 0) for call in range(13)] + [(call, -4) for call in range(1, 13) if call != 11] +
            [(0, -1), (2, -1), (1, -3), (2, -3), (3, -3), (1, -6), (2, -6), (3, -6), (6, -6)]))
        # Of each answer and each refusal there are many.
        self.assertGreater(min(seen.values()), 20, seen)

    def test_lines_of_every_length(self):
        for length in range(1, 201):
            line, answered = random_line(1000 + length, length)
            self.assertEqual(told(*line), answered)

    def test_any_call_first(self):
        firsts = (begin(3), stand(0), propose(0, 0), beat(0), deliver(1), lose(1), copy(1), crash(0), look(0), log(0),
                  settled(0), net(), message(1))
        for first in firsts:
            expected = [3] if first == begin(3) else [0, 0] if first == net() else NONE
            self.assertEqual(told(first), [expected])
            self.assertEqual(told(first, *led(), look(0))[1:], told(*led(), look(0)))

    def test_the_beginning_of_a_line_answers_the_same_without_the_rest(self):
        line, answered = random_line(5, 200)
        for length in range(1, 200, 7):
            self.assertEqual(told(*line[:length]), answered[:length])


class TestRefusals(unittest.TestCase):
    """L6: of several that are due, the first as they are told; and the form of each."""

    def test_before_any_begin(self):
        line = [stand(0), propose(0, MOST_VALUE + 1), beat(0), deliver(0), lose(0), copy(0), crash(0), look(0), log(0),
                settled(0), message(0)]
        self.assertEqual(told(*line), [NONE] * 11)

    def test_no_such_replica_comes_first(self):
        line = [begin(5)] + [stand(k % 5) for k in range(16)]
        self.assertEqual(told(*line, stand(5), stand(0), propose(5, LARGEST), propose(0, LARGEST), propose(0, 0),
                              beat(5), beat(0), copy(65), copy(64))[17:],
                         [NONE, FULL, NONE, WRONG, ROLE, NONE, ROLE, NONE, FULL])

    def test_who_leads_with_no_room_and_a_full_log(self):
        line = led() + [propose(0, 0)] * 32 + [beat(0)] + [copy(4)] * 62
        self.assertEqual(told(*line, stand(0), stand(1), beat(0), propose(0, 0), propose(0, LARGEST))[-5:],
                         [ROLE, FULL, FULL, FULL, WRONG])


if __name__ == "__main__":
    unittest.main()
