"""What a replica does on a message of each of the four kinds."""

import unittest

from oneleader.replica import FOLLOWS, LEADS, STANDS
from tests.helper import (NONE, ROLE, beat, begin, copy, deliver, deliver_all, do, led, lose, propose, replica_row,
                          replica_with, rows, said_on, stand, state_after, told)

SHORT = [(1, 10)]
LONG = [(1, 10), (2, 11), (2, 12)]


class TestTerms(unittest.TestCase):
    def leader(self):
        return replica_with(0, 3, term=5, vote=1, role=LEADS, settled=1, voters=[0, 1], log=list(LONG),
                            next_entry=[4, 4, 2], same=[0, 3, 1])

    def test_a_greater_term_on_each_kind(self):
        for kind in (0, 1, 2, 3):
            for role in (FOLLOWS, STANDS, LEADS):
                replica = self.leader()
                replica.role = role
                # An asker with an empty log, an entry that is not there: nothing but the term is taken over.
                said_on(replica, kind, 2, 0, 6, 0 if kind != 2 else 9)
                self.assertEqual(replica_row(replica), (0, 6, 0, LONG, FOLLOWS, 1, [], [4, 4, 2], [0, 3, 1]))

    def test_the_reply_has_the_term_taken_over(self):
        self.assertEqual(said_on(self.leader(), 0, 2, 0, 9, 3, 2), [(1, 0, 2, 9, 1, 0, 0, [])])
        self.assertEqual(said_on(self.leader(), 2, 2, 0, 9), [(3, 0, 2, 9, 1, 0, 0, [])])

    def test_a_lesser_term_on_each_kind(self):
        for kind, said in ((0, [(1, 0, 2, 5, 0, 0, 0, [])]), (1, []), (2, [(3, 0, 2, 5, 0, 0, 0, [])]), (3, [])):
            for role in (FOLLOWS, STANDS, LEADS):
                replica = self.leader()
                replica.role = role
                before = replica_row(replica)
                self.assertEqual(said_on(replica, kind, 2, 0, 4, 1, 3), said)
                self.assertEqual(replica_row(replica), before)

    def test_a_yes_of_a_greater_term_is_no_vote(self):
        replica = replica_with(0, 3, term=5, vote=1, role=STANDS, voters=[0])
        said_on(replica, 1, 1, 0, 6, 1)
        self.assertEqual((replica.role, replica.voters, replica.term), (FOLLOWS, [], 6))


class TestVoteForMe(unittest.TestCase):
    def asked(self, replica, a, b, sender=2, term=5):
        """Whether it says yes, and its vote then."""
        said = said_on(replica, 0, sender, replica.number, term, a, b)
        self.assertEqual(len(said), 1)
        self.assertEqual(said[0], (1, replica.number, sender, replica.term, said[0][4], 0, 0, []))
        return said[0][4], replica.vote

    def test_no_vote_yet(self):
        self.assertEqual(self.asked(replica_with(term=5), 0, 0), (1, 3))
        self.assertEqual(self.asked(replica_with(term=4, vote=2), 0, 0), (1, 3))
        self.assertEqual(self.asked(replica_with(1, term=5), 0, 0, sender=0), (1, 1))

    def test_a_vote_that_is_there_already(self):
        self.assertEqual(self.asked(replica_with(term=5, vote=3), 0, 0), (1, 3))
        self.assertEqual(self.asked(replica_with(term=5, vote=2), 0, 0), (0, 2))
        self.assertEqual(self.asked(replica_with(term=5, vote=1), 0, 0), (0, 1))

    def test_a_vote_for_it_and_a_log_that_is_newer_now(self):
        self.assertEqual(self.asked(replica_with(term=5, vote=3, log=list(SHORT)), 0, 0), (0, 3))

    def test_a_lesser_term(self):
        self.assertEqual(self.asked(replica_with(term=6), 0, 0), (0, 0))
        self.assertEqual(self.asked(replica_with(term=6, vote=3), 0, 0), (0, 3))

    def test_logs_by_last_term(self):
        self.assertEqual(self.asked(replica_with(term=5, log=list(LONG)), 9, 1), (0, 0))
        self.assertEqual(self.asked(replica_with(term=5, log=list(LONG)), 1, 3), (1, 3))
        self.assertEqual(self.asked(replica_with(term=5, log=list(SHORT)), 0, 0), (0, 0))
        self.assertEqual(self.asked(replica_with(term=5), 1, 1), (1, 3))

    def test_logs_by_length(self):
        self.assertEqual(self.asked(replica_with(term=5, log=list(LONG)), 2, 2), (0, 0))
        self.assertEqual(self.asked(replica_with(term=5, log=list(LONG)), 3, 2), (1, 3))
        self.assertEqual(self.asked(replica_with(term=5, log=list(LONG)), 4, 2), (1, 3))

    def test_a_no_in_a_greater_term_leaves_no_vote(self):
        replica = replica_with(term=4, vote=1, role=STANDS, voters=[0], log=list(LONG))
        self.assertEqual(self.asked(replica, 0, 0), (0, 0))
        self.assertEqual((replica.term, replica.role, replica.voters), (5, FOLLOWS, []))

    def test_nothing_else_changes(self):
        replica = replica_with(1, term=5, log=list(LONG), settled=2)
        self.asked(replica, 3, 2)
        self.assertEqual(replica_row(replica), (1, 5, 3, LONG, FOLLOWS, 2, [], [1, 1, 1], [0, 0, 0]))

    def test_who_stands_in_the_same_term_says_no_and_stands_on(self):
        self.assertEqual(told(begin(3), stand(0), stand(1), deliver(1), deliver(5), deliver(4), deliver(6),
                              propose(0, 1), deliver(7)),
                         [[3], [1], [1], [1], [0], [1], [0], ROLE, NONE])
        state = state_after(begin(3), stand(0), stand(1), deliver(1))
        self.assertEqual(rows(state)[-1], (5, 1, 1, 0, 1, 0, 0, 0, []))
        self.assertEqual(state.replicas[1].role, STANDS)

    def test_asked_twice_it_says_yes_twice(self):
        state = state_after(begin(3), stand(0), copy(1), deliver(1), deliver(3))
        self.assertEqual(rows(state)[1:], [(4, 1, 1, 0, 1, 1, 0, 0, []), (5, 1, 1, 0, 1, 1, 0, 0, [])])


class TestAboutVote(unittest.TestCase):
    def standing(self, n):
        return replica_with(0, n, term=5, vote=1, role=STANDS, voters=[0], log=list(LONG), settled=1,
                            next_entry=[2] * n, same=[1] * n)

    def test_more_than_half_of_three(self):
        replica = self.standing(3)
        self.assertEqual(said_on(replica, 1, 2, 0, 5, 1), [])
        self.assertEqual(replica_row(replica), (0, 5, 1, LONG, LEADS, 1, [0, 2], [4] * 3, [0] * 3))

    def test_more_than_half_of_five(self):
        replica = self.standing(5)
        said_on(replica, 1, 3, 0, 5, 1)
        self.assertEqual(replica_row(replica), (0, 5, 1, LONG, STANDS, 1, [0, 3], [2] * 5, [1] * 5))
        said_on(replica, 1, 1, 0, 5, 1)
        self.assertEqual(replica_row(replica), (0, 5, 1, LONG, LEADS, 1, [0, 3, 1], [4] * 5, [0] * 5))

    def test_a_yes_that_is_heard_twice_counts_once(self):
        replica = self.standing(5)
        for heard in range(3):
            said_on(replica, 1, 3, 0, 5, 1)
        self.assertEqual((replica.role, replica.voters), (STANDS, [0, 3]))

    def test_a_doubled_yes_by_calls(self):
        line = [begin(5), stand(0), deliver(1), copy(5), deliver(5), deliver(6), propose(0, 1), deliver(2), deliver(7),
                propose(0, 1)]
        self.assertEqual(told(*line)[-4:], [ROLE, [1], [0], [1]])

    def test_a_no(self):
        replica = self.standing(3)
        before = replica_row(replica)
        said_on(replica, 1, 1, 0, 5, 0)
        self.assertEqual(replica_row(replica), before)

    def test_a_yes_of_a_lesser_term(self):
        replica = self.standing(3)
        before = replica_row(replica)
        said_on(replica, 1, 1, 0, 4, 1)
        self.assertEqual(replica_row(replica), before)

    def test_an_old_yes_by_calls(self):
        self.assertEqual(told(begin(3), stand(0), deliver(1), stand(0), deliver(3), propose(0, 1))[-1], ROLE)

    def test_who_does_not_stand(self):
        for role in (FOLLOWS, LEADS):
            replica = self.standing(3)
            replica.role = role
            before = replica_row(replica)
            said_on(replica, 1, 1, 0, 5, 1)
            self.assertEqual(replica_row(replica), before)

    def test_a_yes_too_late_does_not_begin_to_lead_anew(self):
        state = state_after(begin(3), stand(0), deliver(1), deliver(2), deliver(3), propose(0, 7), beat(0), deliver(5),
                            deliver(7), deliver(4))
        self.assertEqual(replica_row(state.replicas[0]), (0, 1, 1, [(1, 7)], LEADS, 1, [0, 1], [1, 2, 1], [0, 1, 0]))


class TestHaveThese(unittest.TestCase):
    LOG = [(1, 10), (1, 11), (2, 12), (2, 13), (2, 14)]

    def follower(self, **values):
        given = {"term": 5, "vote": 1, "log": list(self.LOG), "settled": 1}
        given.update(values)
        return replica_with(1, 3, **given)

    def hears(self, replica, a, b, c=0, entries=(), term=5):
        """The kind 3 that is said: yes or no, and up to which entry."""
        said = said_on(replica, 2, 0, 1, term, a, b, c, entries)
        self.assertEqual(said, [(3, 1, 0, replica.term, said[0][4], said[0][5], 0, [])])
        return said[0][4:6]

    def test_the_same_term_ends_standing(self):
        for a, answer in ((0, (1, 0)), (9, (0, 0))):
            replica = self.follower(role=STANDS, vote=2, voters=[1])
            self.assertEqual(self.hears(replica, a, 0), answer)
            self.assertEqual(replica_row(replica), (1, 5, 2, self.LOG, FOLLOWS, 1, [], [1, 1, 1], [0, 0, 0]))

    def test_the_same_term_keeps_the_vote(self):
        replica = self.follower(vote=3)
        self.hears(replica, 0, 0)
        self.assertEqual(replica.vote, 3)

    def test_a_lesser_term_is_a_no(self):
        replica = self.follower(role=STANDS, vote=2, voters=[1])
        before = replica_row(replica)
        self.assertEqual(self.hears(replica, 0, 0, 3, [(4, 1)], term=4), (0, 0))
        self.assertEqual(replica_row(replica), before)

    def test_a_log_with_fewer_entries(self):
        replica = self.follower()
        self.assertEqual(self.hears(replica, 6, 2, 6, [(5, 1)]), (0, 0))
        self.assertEqual(self.hears(replica, 9, 0, 9, [(5, 1)]), (0, 0))
        self.assertEqual(self.hears(self.follower(log=[]), 1, 0, 1, [(5, 1)]), (0, 0))
        self.assertEqual((replica.log, replica.settled), (self.LOG, 1))

    def test_another_term_before(self):
        replica = self.follower()
        for a, b in ((1, 2), (2, 2), (3, 1), (5, 1), (5, 3), (5, 0)):
            self.assertEqual(self.hears(replica, a, b, 5, [(5, 1)]), (0, 0))
        self.assertEqual((replica.log, replica.settled), (self.LOG, 1))

    def test_behind_an_empty_log(self):
        replica = self.follower(log=[], settled=0)
        entries = [(1, 20), (1, 21), (4, 22), (5, 23)]
        self.assertEqual(self.hears(replica, 0, 0, 0, entries), (1, 4))
        self.assertEqual((replica.log, replica.settled), (entries, 0))

    def test_behind_the_last_entry(self):
        replica = self.follower()
        self.assertEqual(self.hears(replica, 5, 2, 0, [(4, 1), (5, 2)]), (1, 7))
        self.assertEqual(replica.log, self.LOG + [(4, 1), (5, 2)])

    def test_no_entries(self):
        replica = self.follower()
        self.assertEqual(self.hears(replica, 3, 2), (1, 3))
        self.assertEqual(self.hears(replica, 0, 0), (1, 0))
        self.assertEqual(self.hears(replica, 5, 2), (1, 5))
        self.assertEqual(replica.log, self.LOG)

    def test_entries_that_agree_and_end_first(self):
        replica = self.follower()
        self.assertEqual(self.hears(replica, 1, 1, 0, [(1, 11), (2, 12)]), (1, 3))
        self.assertEqual(replica.log, self.LOG)

    def test_entries_that_agree_to_the_end(self):
        replica = self.follower()
        self.assertEqual(self.hears(replica, 2, 1, 0, self.LOG[2:]), (1, 5))
        self.assertEqual(replica.log, self.LOG)

    def test_entries_that_agree_and_go_on(self):
        replica = self.follower()
        self.assertEqual(self.hears(replica, 3, 2, 0, self.LOG[3:] + [(5, 1), (5, 2)]), (1, 7))
        self.assertEqual(replica.log, self.LOG + [(5, 1), (5, 2)])

    def test_entries_that_differ_at_once(self):
        replica = self.follower()
        self.assertEqual(self.hears(replica, 1, 1, 0, [(3, 1)]), (1, 2))
        self.assertEqual(replica.log, [(1, 10), (3, 1)])
        replica = self.follower()
        self.assertEqual(self.hears(replica, 0, 0, 0, [(4, 1), (4, 2)]), (1, 2))
        self.assertEqual(replica.log, [(4, 1), (4, 2)])

    def test_entries_that_differ_later(self):
        replica = self.follower()
        self.assertEqual(self.hears(replica, 1, 1, 0, [(1, 11), (2, 12), (3, 1), (3, 2)]), (1, 5))
        self.assertEqual(replica.log, [(1, 10), (1, 11), (2, 12), (3, 1), (3, 2)])
        replica = self.follower()
        self.assertEqual(self.hears(replica, 1, 1, 0, [(1, 11), (3, 1)]), (1, 3))
        self.assertEqual(replica.log, [(1, 10), (1, 11), (3, 1)])

    def test_an_entry_of_a_lesser_term_differs_too(self):
        replica = self.follower()
        self.assertEqual(self.hears(replica, 2, 1, 0, [(1, 9)]), (1, 3))
        self.assertEqual(replica.log, [(1, 10), (1, 11), (1, 9)])

    def test_of_one_term_its_own_stays(self):
        replica = self.follower()
        self.assertEqual(self.hears(replica, 2, 1, 0, [(2, 99), (2, 98)]), (1, 4))
        self.assertEqual(replica.log, self.LOG)

    def test_settled_is_the_lesser_of_c_and_k(self):
        for c, settled in ((0, 1), (1, 1), (2, 2), (3, 3), (4, 3), (30, 3)):
            replica = self.follower()
            self.hears(replica, 1, 1, c, [(1, 11), (2, 12)])
            self.assertEqual(replica.settled, settled)

    def test_settled_does_not_fall(self):
        replica = self.follower(settled=4)
        self.hears(replica, 1, 1, 3, [(1, 11)])
        self.assertEqual(replica.settled, 4)
        self.hears(replica, 0, 0, 0)
        self.assertEqual(replica.settled, 4)

    def test_settled_without_entries(self):
        replica = self.follower()
        self.hears(replica, 4, 2, 5)
        self.assertEqual(replica.settled, 4)

    def test_a_late_message_does_not_cut_the_log(self):
        state = state_after(*led(), propose(0, 1), beat(0), propose(0, 2), beat(0), deliver(6), deliver(4))
        self.assertEqual(state.replicas[1].log, [(1, 1), (1, 2)])
        self.assertEqual(rows(state)[-1][1:7], (3, 1, 0, 1, 1, 1))

    def test_a_full_log_four_by_four(self):
        state = state_after(*led(), *[propose(0, v) for v in range(32)])
        number = 4
        for four in range(8):
            do(state, beat(0), deliver(number), lose(number + 1), deliver(number + 2))
            self.assertEqual(state.replicas[1].log, [(1, v) for v in range(4 * four + 4)])
            self.assertEqual(state.replicas[0].settled, 4 * four + 4)
            self.assertEqual(state.replicas[1].settled, 4 * four)
            number += 3
        do(state, beat(0), deliver(number), lose(number + 1), deliver(number + 2))
        self.assertEqual(state.replicas[1].settled, 32)
        self.assertEqual(replica_row(state.replicas[0])[5:], (32, [0, 1], [1, 33, 1], [0, 32, 0]))


class TestAboutEntries(unittest.TestCase):
    def leader(self, n=5, **values):
        given = {"term": 5, "vote": 1, "role": LEADS, "voters": [0, 1, 2], "settled": 1,
                 "log": [(1, 10), (3, 11), (5, 12), (5, 13), (5, 14)], "next_entry": [4] * n, "same": [0] * n}
        given.update(values)
        return replica_with(0, n, **given)

    def hears(self, replica, sender, a, b=0, term=5):
        self.assertEqual(said_on(replica, 3, sender, 0, term, a, b), [])
        return replica.next_entry, replica.same, replica.settled

    def test_a_yes(self):
        self.assertEqual(self.hears(self.leader(), 2, 1, 3), ([4] * 5, [0, 0, 3, 0, 0], 1))
        self.assertEqual(self.hears(self.leader(), 2, 1, 5), ([4, 4, 6, 4, 4], [0, 0, 5, 0, 0], 1))

    def test_a_yes_about_fewer(self):
        replica = self.leader(same=[0, 0, 4, 0, 0], next_entry=[4, 4, 9, 4, 4])
        self.assertEqual(self.hears(replica, 2, 1, 2), ([4, 4, 5, 4, 4], [0, 0, 4, 0, 0], 1))

    def test_a_yes_about_nothing(self):
        self.assertEqual(self.hears(self.leader(), 3, 1, 0), ([4, 4, 4, 1, 4], [0] * 5, 1))

    def test_a_no(self):
        replica = self.leader(same=[0, 3, 0, 0, 0])
        self.assertEqual(self.hears(replica, 1, 0), ([4, 3, 4, 4, 4], [0, 3, 0, 0, 0], 1))

    def test_a_no_does_not_go_below_1(self):
        replica = self.leader(next_entry=[2] * 5)
        self.assertEqual(self.hears(replica, 1, 0)[0], [2, 1, 2, 2, 2])
        self.assertEqual(self.hears(replica, 1, 0)[0], [2, 1, 2, 2, 2])

    def test_a_no_settles_nothing(self):
        replica = self.leader(same=[0, 5, 5, 5, 5])
        self.assertEqual(self.hears(replica, 1, 0)[2], 1)

    def test_who_does_not_lead(self):
        for role in (FOLLOWS, STANDS):
            for a in (0, 1):
                replica = self.leader(role=role, same=[0, 5, 5, 5, 5])
                before = replica_row(replica)
                self.hears(replica, 1, a, 5)
                self.assertEqual(replica_row(replica), before)

    def test_a_lesser_term(self):
        for a in (0, 1):
            replica = self.leader(same=[0, 5, 5, 0, 0])
            before = replica_row(replica)
            self.hears(replica, 1, a, 5, term=4)
            self.assertEqual(replica_row(replica), before)

    def test_more_than_half_of_five(self):
        replica = self.leader(same=[0, 3, 0, 0, 0])
        self.assertEqual(self.hears(replica, 2, 1, 2)[2], 1)
        self.assertEqual(self.hears(replica, 2, 1, 3)[2], 3)

    def test_more_than_half_of_three(self):
        self.assertEqual(self.hears(self.leader(3), 2, 1, 4)[2], 4)

    def test_the_greatest_that_more_than_half_have(self):
        replica = self.leader(same=[0, 5, 3, 0, 0])
        self.assertEqual(self.hears(replica, 4, 1, 4)[2], 4)
        self.assertEqual(self.hears(replica, 2, 1, 5)[2], 5)

    def test_its_own_same_does_not_count_a_second_time(self):
        replica = self.leader(same=[5, 0, 0, 0, 0])
        self.assertEqual(self.hears(replica, 4, 1, 5)[2], 1)

    def test_an_entry_of_an_earlier_term_is_not_settled_by_count(self):
        replica = self.leader(same=[0, 2, 2, 0, 0])
        self.assertEqual(self.hears(replica, 3, 1, 2)[2], 1)
        self.assertEqual(self.hears(replica, 3, 1, 3)[2], 1)
        self.assertEqual(self.hears(replica, 1, 1, 3)[2], 3)

    def test_settled_does_not_fall(self):
        replica = self.leader(settled=4, same=[0, 3, 3, 3, 0])
        self.assertEqual(self.hears(replica, 4, 1, 3)[2], 4)

    def test_a_doubled_yes_counts_once(self):
        line = led(5) + [propose(0, 1), beat(0), deliver(7), copy(11), deliver(11), deliver(12)]
        self.assertEqual(state_after(*line).replicas[0].settled, 0)
        self.assertEqual(state_after(*line, deliver(8), deliver(13)).replicas[0].settled, 1)

    def test_a_log_that_differs_is_found_and_mended(self):
        # Replica 0 leads in term 1 with two entries that nobody hears of; 1 leads in term 3 with one of its own.
        line = led() + [propose(0, 1), propose(0, 2), stand(1), lose(4), lose(5), stand(1), deliver(7), deliver(8),
                        propose(1, 3), beat(1)]
        state = state_after(*line)
        self.assertEqual([replica.role for replica in state.replicas], [LEADS, LEADS, FOLLOWS])
        self.assertEqual(do(state, *deliver_all(9, 10, 11, 12)), [[1], [1], [0], [0]])
        self.assertEqual([replica.log for replica in state.replicas], [[(3, 3)]] * 3)
        self.assertEqual(replica_row(state.replicas[1]), (1, 3, 2, [(3, 3)], LEADS, 1, [1, 2], [2, 1, 2], [1, 0, 1]))


if __name__ == "__main__":
    unittest.main()
