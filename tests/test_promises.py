"""L1 to L6: held against many long lines of all thirteen calls, and against the few that try them hardest."""

import unittest

from oneleader.replica import LEADS
from tests.helper import (NONE, ROLE, Numbers, beat, begin, copy, crash, deliver, deliver_all, deliver_everything, do,
                          led, log, look, lose, message, net, propose, settled, snapshot, stand, state_after)


def random_call(numbers, state):
    n = len(state.replicas)
    kind = numbers.below(120)
    under_way = list(state.under_way)
    if kind >= 100:
        return random_asking(numbers, n, state.next_number)
    if kind < 4:
        return stand(numbers.below(n))
    if kind < 14 or not under_way:
        leaders = [replica.number for replica in state.replicas if replica.role == LEADS]
        if not leaders:
            return stand(numbers.below(n))
        leader = leaders[numbers.below(len(leaders))]
        return propose(leader, numbers.below(1000)) if kind % 2 else beat(leader)
    if kind < 18:
        return beat(numbers.below(n))
    if kind < 21:
        return crash(numbers.below(n))
    m = under_way[numbers.below(len(under_way))]
    if kind < 82:
        return deliver(m)
    return lose(m) if kind < 94 else copy(m)


def random_asking(numbers, n, next_number):
    """One of the calls that only tell, or once in a while a begin; one past the last is asked for too."""
    kind = numbers.below(60)
    if kind == 0:
        return begin(3 + numbers.below(3))
    if kind % 5 < 3:
        return (look, log, settled)[kind % 5](numbers.below(n + 1))
    return net() if kind % 5 == 3 else message(numbers.below(next_number + 1))


class Watch:
    """Knows what ever led, was proposed and was settled; says what breaks a promise."""

    def __init__(self, case, state):
        self.case = case
        self.state = state
        self.crashes = 0
        self.begin()

    def begin(self):
        self.leader_of = {}
        self.proposed = {}
        self.settled = []
        self.settled_in = []

    def call(self, call):
        before = snapshot(self.state)
        given = do(self.state, call)[0]
        if given[0] < 0:
            self.case.assertEqual(len(given), 1, "L6")
        if given[0] < 0 or call[0] >= 8:
            self.case.assertEqual(snapshot(self.state), before, "L6: changed by a refusal, or by asking")
        elif call[0] == 0:
            self.begin()
        elif call[0] == 2:
            term = self.state.replicas[call[1]].term
            self.proposed[(given[0], term)] = call[2]
        elif call[0] == 7:
            self.crashes += 1
        self.look()

    def look(self):
        replicas = self.state.replicas
        self.case.assertLessEqual(len(self.state.under_way), 64)
        for replica in replicas:
            self.look_at_log(replica)
            self.look_at_settled(replica)
        for k in range(1, len(self.settled) + 1):
            have = [replica for replica in replicas if replica.log[:k] == self.settled[:k]]
            self.case.assertLess(len(replicas), 2 * len(have), "L3: not more than half have it")
        for replica in replicas:
            if replica.role == LEADS:
                self.look_at_leader(replica)
        for one in replicas:
            for other in replicas[:one.number]:
                self.look_at_two(one.log, other.log)

    def look_at_log(self, replica):
        self.case.assertLessEqual(len(replica.log), 32)
        for k, (term, value) in enumerate(replica.log, start=1):
            self.case.assertEqual(self.proposed.get((k, term)), value, "L4")

    def look_at_settled(self, replica):
        self.case.assertLessEqual(replica.settled, len(replica.log))
        both = min(replica.settled, len(self.settled))
        self.case.assertEqual(replica.log[:both], self.settled[:both], "L3: settled otherwise")
        # What was ever known to be settled is kept here, though a crash lets all who knew it forget.
        for k in range(len(self.settled) + 1, replica.settled + 1):
            self.settled.append(replica.log[k - 1])
            self.settled_in.append(replica.term)

    def look_at_leader(self, replica):
        self.case.assertEqual(self.leader_of.setdefault(replica.term, replica.number), replica.number, "L1")
        for k, term in enumerate(self.settled_in):
            if term < replica.term:
                self.case.assertEqual(replica.log[k:k + 1], self.settled[k:k + 1], "L3: a later leader lacks it")

    def look_at_two(self, one, other):
        for k in range(min(len(one), len(other)), 0, -1):
            if one[k - 1][0] == other[k - 1][0]:
                self.case.assertEqual(one[:k], other[:k], "L2")
                return


def is_behind(replica, other):
    return (replica.last_term(), len(replica.log)) < (other.last_term(), len(other.log))


class TestLongLines(unittest.TestCase):
    def walk(self, n, seed, length):
        numbers = Numbers(seed)
        state = state_after(begin(n))
        watch = Watch(self, state)
        for step in range(length):
            watch.call(random_call(numbers, state))
        return watch

    def comes_to_settle(self, watch, i):
        """L5: replica i, behind nobody, with nothing under way."""
        state = watch.state
        replica = state.replicas[i]
        tries = 0
        while replica.role != LEADS or replica.term < max(other.term for other in state.replicas):
            self.assertLess(tries, 3, "L5: does not come to lead")
            if replica.role == LEADS:
                do(state, beat(i))
            else:
                do(state, stand(i))
            deliver_everything(state)
            tries += 1
        if len(replica.log) == 32:
            return False
        watch.call(propose(i, 77))
        beats = 0
        while any(other.settled < len(replica.log) for other in state.replicas):
            self.assertLess(beats, 80, "L5: does not come to settle")
            do(state, beat(i))
            deliver_everything(state)
            beats += 1
        watch.look()
        self.assertEqual([other.log for other in state.replicas], [replica.log] * len(state.replicas))
        return True

    def test_promises_hold_after_each_call(self):
        entries = leaders = finished = crashes = 0
        for n in (3, 5):
            for seed in range(150):
                watch = self.walk(n, seed, 199)
                entries += len(watch.settled)
                crashes += watch.crashes
                leaders += len(watch.leader_of)
                do(watch.state, *[lose(m) for m in list(watch.state.under_way)])
                for replica in watch.state.replicas:
                    if not any(is_behind(replica, other) for other in watch.state.replicas):
                        finished += self.comes_to_settle(watch, replica.number)
                        break
        # Lines in which nothing happens would hold any promise.
        self.assertGreater(entries, 500)
        self.assertGreater(crashes, 500)
        self.assertGreater(leaders, 500)
        self.assertGreater(finished, 200)

    def test_any_replica_comes_to_lead_at_first(self):
        for n in (3, 5):
            for i in range(n):
                watch = Watch(self, state_after(begin(n)))
                self.assertTrue(self.comes_to_settle(watch, i))
                self.assertEqual(watch.settled, [(1, 77)])


class TestHardLines(unittest.TestCase):
    def test_two_that_stand_in_one_term(self):
        # Of five, 0 and 1 stand in term 1; 2 hears 0 first, 3 and 4 hear 1 first: only 1 leads.
        state = state_after(begin(5), stand(0), stand(1), deliver(2), deliver(7), deliver(8), deliver(6), deliver(3),
                            deliver(4))
        do(state, *deliver_all(*list(state.under_way)))
        self.assertEqual([replica.role for replica in state.replicas], [1, 2, 0, 0, 0])
        self.assertEqual(state.replicas[0].voters, [0, 2])

    def test_who_is_behind_does_not_come_to_lead(self):
        state = state_after(*led(), propose(0, 5), beat(0), deliver(4), deliver(6), lose(5))
        self.assertEqual(state.replicas[0].settled, 1)
        self.assertEqual(do(state, stand(2), deliver(7), deliver(8)), [[1], [1], [1]])
        do(state, deliver(9), deliver(10), stand(2), deliver(11), deliver(12), deliver(13), deliver(14))
        self.assertEqual([replica.role for replica in state.replicas], [0, 0, 1])
        self.assertEqual(do(state, propose(2, 6)), [ROLE])
        self.assertEqual(do(state, stand(1), deliver(16), deliver(17), propose(1, 6)), [[3], [1], [0], [2]])
        self.assertEqual(state.replicas[1].log, [(1, 5), (3, 6)])

    def heard_by(self, state, call, hearers):
        """Does a call; of what it says only these hear, and their replies are heard."""
        do(state, call)
        for m in list(state.under_way):
            if state.under_way[m].receiver in hearers:
                do(state, deliver(m))
            else:
                do(state, lose(m))
        deliver_everything(state)

    def test_an_entry_of_an_earlier_term_that_is_overwritten(self):
        # More than half come to have the entry of term 1 while 0 leads in term 3; it must not be settled by that,
        # for 4, with an entry of term 2, leads afterwards and overwrites it.
        state = state_after(begin(5))
        self.heard_by(state, stand(0), (1, 2))
        do(state, propose(0, 50))
        self.heard_by(state, beat(0), (1,))
        self.heard_by(state, stand(4), ())
        self.heard_by(state, stand(4), (0, 2, 3))
        do(state, propose(4, 60))
        self.heard_by(state, stand(0), (1, 2))
        self.heard_by(state, beat(0), (1, 2))
        self.heard_by(state, beat(0), (1, 2))
        self.assertEqual((state.replicas[0].role, state.replicas[0].term), (LEADS, 3))
        self.assertEqual([replica.log for replica in state.replicas], [[(1, 50)]] * 3 + [[], [(2, 60)]])
        self.assertEqual(state.replicas[0].same, [0, 1, 1, 0, 0])
        self.assertEqual(state.replicas[0].settled, 0)
        self.heard_by(state, beat(0), (4,))
        self.heard_by(state, stand(4), (1, 2, 3))
        do(state, propose(4, 61))
        for beats in range(3):
            self.heard_by(state, beat(4), (0, 1, 2, 3))
        self.assertEqual([replica.log for replica in state.replicas], [[(2, 60), (4, 61)]] * 5)
        self.assertEqual([replica.settled for replica in state.replicas], [2] * 5)

    def test_an_old_leader_learns_of_the_new_one(self):
        state = state_after(*led(), propose(0, 5), stand(1), deliver(5), deliver(6), beat(0), deliver(8))
        self.assertEqual([replica.role for replica in state.replicas], [2, 2, 0])
        self.assertEqual(do(state, deliver(9), propose(0, 6), beat(0)), [[0], ROLE, ROLE])
        self.assertEqual((state.replicas[0].term, state.replicas[0].log), (2, [(1, 5)]))

    def test_nothing_comes_from_a_begin_before(self):
        state = state_after(*led(), propose(0, 5), beat(0), begin(3))
        self.assertEqual(do(state, deliver(4), deliver(5)), [NONE, NONE])
        self.assertEqual([replica.log for replica in state.replicas], [[], [], []])


if __name__ == "__main__":
    unittest.main()
