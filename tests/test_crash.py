"""The call crash: what it leaves, what is as at first again, and what comes of it later."""

import unittest

from oneleader.replica import FOLLOWS, LEADS, STANDS
from tests.helper import (LARGEST, NONE, ROLE, beat, begin, copy, crash, deliver, deliver_everything, do, led, log,
                          look, lose, message, net, propose, replica_row, rows, set_values, settled, snapshot, stand,
                          state_after, told)

LOG = [(1, 10), (2, 11), (4, 12)]


class TestAnswers(unittest.TestCase):
    def refuses(self, state, i):
        before = snapshot(state)
        self.assertEqual(do(state, crash(i)), [NONE])
        self.assertEqual(snapshot(state), before)

    def test_zero(self):
        self.assertEqual(told(begin(3), crash(0), crash(1), crash(2)), [[3], [0], [0], [0]])
        self.assertEqual(told(begin(5), crash(4)), [[5], [0]])
        self.assertEqual(told(*led(), crash(0))[-1], [0])

    def test_before_any_begin(self):
        self.assertEqual(told(crash(0), crash(1), crash(LARGEST)), [NONE] * 3)
        self.assertEqual(told(begin(4), crash(0)), [[-1], NONE])

    def test_no_such_replica(self):
        for n in (3, 5):
            state = state_after(*led(n), propose(0, 7), beat(0))
            for i in (n, n + 1, 2 ** 32, 2 ** 63 - n, LARGEST):
                self.refuses(state, i)


class TestWhatItLeaves(unittest.TestCase):
    def test_term_vote_and_log_stay_and_the_rest_is_as_at_first(self):
        for n in (3, 5):
            for role in (FOLLOWS, STANDS, LEADS):
                for vote in (0, 2, 3):
                    state = state_after(begin(n))
                    set_values(state.replicas[1], term=6, vote=vote, log=list(LOG), role=role, settled=2,
                               voters=[1, 2, 0], next_entry=[4, 3, 2] + [4] * (n - 3), same=[0, 1, 3] + [2] * (n - 3))
                    self.assertEqual(do(state, crash(1)), [[0]])
                    self.assertEqual(replica_row(state.replicas[1]),
                                     (1, 6, vote, LOG, FOLLOWS, 0, [], [1] * n, [0] * n))

    def test_nothing_but_that_replica_changes(self):
        for i in range(3):
            state = state_after(*led(), propose(0, 7), beat(0), deliver(4), copy(6), deliver(6), stand(2))
            before = snapshot(state)
            do(state, crash(i))
            after = snapshot(state)
            self.assertEqual([row for row in after[0] if row[0] != i], [row for row in before[0] if row[0] != i])
            self.assertEqual(after[1:], before[1:])

    def test_a_second_crash_changes_nothing_more(self):
        state = state_after(*led(), propose(0, 7), beat(0), deliver(4), deliver(6), crash(0))
        before = snapshot(state)
        self.assertEqual(do(state, crash(0)), [[0]])
        self.assertEqual(snapshot(state), before)

    def test_a_replica_as_at_first(self):
        state = state_after(begin(3), crash(0))
        self.assertEqual(snapshot(state), snapshot(state_after(begin(3))))

    def test_one_that_follows(self):
        line = led() + [propose(0, 7), beat(0), deliver(4), deliver(6), beat(0), deliver(7)]
        asked = [look(1), log(1), settled(1)]
        self.assertEqual(told(*line, *asked)[-3:],
                         [[0, 4, 1, 1, 1, 1, 0, 3, 1, 1, 1, 3, 0, 0, 0], [1, 2, 1, 7], [1, 2, 1, 7]])
        self.assertEqual(told(*line, crash(1), *asked)[-3:],
                         [[0, 4, 1, 1, 1, 0, 0, 3, 1, 1, 1, 3, 0, 0, 0], [1, 2, 1, 7], [0, 0]])

    def test_one_that_stands(self):
        line = [begin(5), stand(2), deliver(1), deliver(5)]
        self.assertEqual(told(*line, look(2))[-1],
                         [1, 4, 1, 3, 0, 0, 2, 2, 0, 5, 1, 1, 1, 1, 1, 5, 0, 0, 0, 0, 0])
        self.assertEqual(told(*line, crash(2), look(2))[-1],
                         [0, 4, 1, 3, 0, 0, 0, 5, 1, 1, 1, 1, 1, 5, 0, 0, 0, 0, 0])

    def test_one_that_leads(self):
        line = led() + [propose(0, 7), propose(0, 8), beat(0), deliver(4), deliver(6)]
        asked = [look(0), log(0), settled(0)]
        self.assertEqual(told(*line, *asked)[-3:],
                         [[2, 4, 1, 1, 2, 2, 2, 0, 1, 3, 1, 3, 1, 3, 0, 2, 0], [2, 4, 1, 7, 1, 8], [2, 4, 1, 7, 1, 8]])
        self.assertEqual(told(*line, crash(0), *asked)[-3:],
                         [[0, 4, 1, 1, 2, 0, 0, 3, 1, 1, 1, 3, 0, 0, 0], [2, 4, 1, 7, 1, 8], [0, 0]])

    def test_what_it_said_before_stays_under_way(self):
        line = led() + [propose(0, 7), beat(0)]
        asked = [net(), message(4), message(5)]
        self.assertEqual(told(*line, crash(0), *asked)[-3:], told(*line, *asked)[-3:])
        self.assertEqual(told(*line, crash(0), net())[-1], [2, 2, 4, 5])

    def test_what_was_said_to_it_stays_under_way(self):
        line = [begin(3), stand(0), crash(1), net(), deliver(1), look(1)]
        self.assertEqual(told(*line)[-3:], [[2, 2, 1, 2], [1], [0, 4, 1, 1, 0, 0, 0, 3, 1, 1, 1, 3, 0, 0, 0]])

    def test_the_next_number_stays(self):
        self.assertEqual(told(begin(3), stand(0), crash(0), copy(1)), [[3], [1], [0], [3]])


class TestWhatComesOfIt(unittest.TestCase):
    def test_a_vote_still_binds(self):
        # Replica 1 voted for 0 in term 1; asked by 2 in the same term it says no, asked by 0 again it says yes.
        line = [begin(3), stand(0), copy(1), deliver(1), crash(1), stand(2)]
        state = state_after(*line)
        self.assertEqual(do(state, deliver(6), deliver(3)), [[1], [1]])
        self.assertEqual(rows(state)[-2:], [(7, 1, 1, 2, 1, 0, 0, 0, []), (8, 1, 1, 0, 1, 1, 0, 0, [])])
        self.assertEqual(state.replicas[1].vote, 1)

    def test_a_vote_for_itself_still_binds(self):
        state = state_after(begin(3), stand(1), crash(1), stand(0), deliver(3))
        self.assertEqual(rows(state)[-1], (5, 1, 1, 0, 1, 0, 0, 0, []))
        self.assertEqual(state.replicas[1].vote, 2)

    def test_no_second_leader_in_its_term(self):
        # 0 leads with the vote of 1; both crash, and 2 stands in the same term: nobody votes for it.
        state = state_after(begin(3), stand(0), lose(2), deliver(1), deliver(3), crash(0), crash(1), stand(2))
        self.assertEqual(do(state, deliver(4), deliver(5), deliver(6), deliver(7)), [[1], [1], [0], [0]])
        self.assertEqual(replica_row(state.replicas[2])[1:7], (1, 3, [], STANDS, 0, [2]))

    def test_it_stands_in_the_next_term(self):
        self.assertEqual(told(begin(3), crash(0), stand(0)), [[3], [0], [1]])
        self.assertEqual(told(begin(3), stand(0), stand(0), crash(0), stand(0)), [[3], [1], [2], [0], [3]])
        self.assertEqual(told(*led(), crash(0), stand(0), look(0))[-3:],
                         [[0], [2], [1, 4, 2, 1, 0, 0, 1, 0, 3, 1, 1, 1, 3, 0, 0, 0]])
        self.assertEqual(told(*led(), crash(1), stand(1))[-1], [2])

    def test_it_tells_of_its_log_when_it_stands(self):
        line = led() + [propose(0, 7), propose(0, 8), crash(0), stand(0), message(4)]
        self.assertEqual(told(*line)[-1], [0, 8, 4, 0, 0, 1, 2, 2, 1, 0, 0])

    def test_who_led_leads_no_more(self):
        self.assertEqual(told(*led(), crash(0), propose(0, 1), beat(0))[-2:], [ROLE, ROLE])

    def test_a_late_yes_about_a_vote_is_not_heard(self):
        line = [begin(3), stand(0), deliver(1), crash(0), deliver(3), look(0), propose(0, 1)]
        self.assertEqual(told(*line)[-3:], [[0], [0, 4, 1, 1, 0, 0, 0, 3, 1, 1, 1, 3, 0, 0, 0], ROLE])

    def test_a_yes_of_before_does_not_count_in_the_next_term(self):
        line = [begin(3), stand(0), deliver(1), crash(0), stand(0), deliver(3), look(0)]
        self.assertEqual(told(*line)[-1], [1, 4, 2, 1, 0, 0, 1, 0, 3, 1, 1, 1, 3, 0, 0, 0])

    def test_voters_of_before_are_not_counted(self):
        # Of five, 0 has two votes, crashes, stands again and hears one yes: that's two, not three.
        line = [begin(5), stand(0), deliver(1), deliver(5), crash(0), stand(0), deliver(7), deliver(10), look(0)]
        self.assertEqual(told(*line)[-1], [1, 4, 2, 1, 0, 0, 2, 0, 2, 5, 1, 1, 1, 1, 1, 5, 0, 0, 0, 0, 0])

    def test_a_late_message_about_entries_is_not_heard(self):
        line = led() + [propose(0, 7), beat(0), deliver(4), crash(0), deliver(6), look(0), settled(0)]
        self.assertEqual(told(*line)[-3:], [[0], [0, 4, 1, 1, 1, 0, 0, 3, 1, 1, 1, 3, 0, 0, 0], [0, 0]])

    def test_what_it_said_before_is_still_heard(self):
        line = led() + [propose(0, 7), beat(0), crash(0), deliver(5), log(2), message(6)]
        self.assertEqual(told(*line)[-3:], [[1], [1, 2, 1, 7], [3, 8, 6, 3, 2, 0, 1, 1, 1, 0, 0]])

    def test_it_learns_again_what_is_settled(self):
        line = led() + [propose(0, 7), beat(0), deliver(4), deliver(6), beat(0), deliver(7), crash(1), settled(1),
                        beat(0), deliver(10), settled(1)]
        given = told(*line)
        self.assertEqual([given[-4], given[-1]], [[0, 0], [1, 2, 1, 7]])

    def test_who_leads_again_after_a_crash_begins_behind_its_log(self):
        line = led() + [propose(0, 7), propose(0, 8), crash(0), stand(0), deliver(4), deliver(6), look(0), beat(0),
                        message(7)]
        self.assertEqual(told(*line)[-3:], [[2, 4, 2, 1, 2, 0, 2, 0, 1, 3, 3, 3, 3, 3, 0, 0, 0], [2],
                                            [2, 8, 7, 2, 0, 1, 2, 2, 1, 0, 0]])

    def test_what_was_settled_outlasts_a_crash_of_all(self):
        line = led() + [propose(0, 7), beat(0), deliver(4), deliver(6), lose(5), crash(0), crash(1), crash(2)]
        # 2 has nothing and gets no vote of 1; 1 has the entry, leads in the next term and settles it with its own.
        line += [stand(2), stand(2), deliver(9), deliver(10), deliver(11), deliver(12)]
        line += [stand(1), deliver(13), deliver(14), deliver(15), deliver(16), propose(1, 8)]
        state = state_after(*line)
        self.assertEqual([replica.role for replica in state.replicas], [FOLLOWS, LEADS, FOLLOWS])
        for beats in range(4):
            do(state, beat(1))
            deliver_everything(state)
        self.assertEqual(do(state, settled(0), settled(1), settled(2)), [[2, 4, 1, 7, 3, 8]] * 3)


if __name__ == "__main__":
    unittest.main()
