"""The calls begin, stand, propose, beat, deliver, lose and copy.

What each answers, what it refuses and in which order, and what it leaves as it was.
"""

import unittest

from oneleader.replica import LEADS, STANDS
from tests.helper import (FULL, LARGEST, MOST_VALUE, NONE, ROLE, WRONG, beat, begin, copy, deliver, do, led, lose,
                          propose, replica_row, rows, snapshot, stand, state_after, told)


def filled_to(state, count):
    """Doubles a message until so many are under way."""
    first = next(iter(state.under_way))
    do(state, *[copy(first)] * (count - len(state.under_way)))
    if len(state.under_way) != count:
        raise AssertionError("copy doesn't add one each time")
    return state


class CallsCase(unittest.TestCase):
    def refuses(self, state, call, refusal):
        before = snapshot(state)
        self.assertEqual(do(state, call), [refusal])
        self.assertEqual(snapshot(state), before)

    def standing(self, n=3):
        return state_after(begin(n), stand(0))

    def leading(self, n=3):
        return state_after(*led(n))


class TestBegin(CallsCase):
    def test_three_and_five(self):
        self.assertEqual(told(begin(3)), [[3]])
        self.assertEqual(told(begin(5)), [[5]])

    def test_other_counts(self):
        for n in (0, 1, 2, 4, 6, 7, 8, 35, 2 ** 32 + 3, LARGEST):
            self.assertEqual(told(begin(n)), [WRONG])

    def test_replicas_as_at_first(self):
        for n in (3, 5):
            state = state_after(begin(n))
            self.assertEqual([replica_row(replica) for replica in state.replicas],
                             [(i, 0, 0, [], 0, 0, [], [1] * n, [0] * n) for i in range(n)])
            self.assertEqual((rows(state), state.next_number), ([], 1))

    def test_only_so_many_replicas(self):
        self.assertEqual(told(begin(3), stand(2), stand(3)), [[3], [1], NONE])
        self.assertEqual(told(begin(5), stand(4), stand(5)), [[5], [1], NONE])

    def test_replicas_do_not_share_what_they_have(self):
        state = state_after(begin(3))
        state.replicas[0].log.append((1, 1))
        state.replicas[0].voters.append(1)
        state.replicas[0].same[1] = 1
        state.replicas[0].next_entry[1] = 2
        self.assertEqual(replica_row(state.replicas[1]), (1, 0, 0, [], 0, 0, [], [1, 1, 1], [0, 0, 0]))

    def test_a_second_begin_is_as_the_first(self):
        for n in (3, 5):
            for line in (led(), led(5)):
                state = state_after(*line, propose(0, 7), beat(0), begin(n))
                self.assertEqual(snapshot(state), snapshot(state_after(begin(n))))

    def test_a_second_begin_in_answers(self):
        line = led() + [propose(0, 7), beat(0), begin(5), deliver(4), lose(4), copy(4), propose(0, 7), stand(0),
                        copy(4)]
        self.assertEqual(told(*line)[7:], [[5], NONE, NONE, NONE, ROLE, [1], [5]])

    def test_a_refused_begin_changes_nothing(self):
        state = state_after(*led(), propose(0, 7), beat(0))
        for n in (0, 4, 6, LARGEST):
            self.refuses(state, begin(n), WRONG)
        self.assertEqual(told(*led(), begin(4), propose(0, 1))[5:], [WRONG, [1]])

    def test_a_refused_begin_before_any_begin(self):
        self.assertEqual(told(begin(4), stand(0)), [WRONG, NONE])


class TestStand(CallsCase):
    def test_term_vote_and_what_is_said(self):
        state = self.standing()
        self.assertEqual(replica_row(state.replicas[0]), (0, 1, 1, [], STANDS, 0, [0], [1, 1, 1], [0, 0, 0]))
        self.assertEqual(rows(state), [(1, 0, 0, 1, 1, 0, 0, 0, []), (2, 0, 0, 2, 1, 0, 0, 0, [])])

    def test_all_others_in_order(self):
        state = state_after(begin(5), stand(2))
        self.assertEqual(rows(state), [(k + 1, 0, 2, j, 1, 0, 0, 0, []) for k, j in enumerate((0, 1, 3, 4))])

    def test_tells_how_long_its_log_is_and_its_last_term(self):
        state = state_after(begin(3))
        state.replicas[1].log = [(1, 5), (1, 6), (4, 7)]
        state.replicas[1].term = 6
        self.assertEqual(do(state, stand(1)), [[7]])
        self.assertEqual(rows(state), [(1, 0, 1, 0, 7, 3, 4, 0, []), (2, 0, 1, 2, 7, 3, 4, 0, [])])

    def test_again_while_it_stands(self):
        self.assertEqual(told(begin(3), stand(0), stand(0), stand(0)), [[3], [1], [2], [3]])
        state = state_after(begin(5), stand(0), deliver(1), deliver(5), stand(0))
        self.assertEqual(state.replicas[0].voters, [0])
        self.assertEqual(state.replicas[0].term, 2)

    def test_a_term_beyond_what_it_heard_of(self):
        self.assertEqual(told(begin(3), stand(0), stand(0), deliver(3), stand(1)), [[3], [1], [2], [1], [3]])

    def test_no_such_replica(self):
        self.assertEqual(told(stand(0)), [NONE])
        state = self.leading()
        for i in (3, 4, 5, LARGEST):
            self.refuses(state, stand(i), NONE)

    def test_who_leads(self):
        self.refuses(self.leading(), stand(0), ROLE)
        self.assertEqual(told(*led(), stand(0), stand(1))[5:], [ROLE, [2]])

    def test_the_last_term(self):
        state = state_after(begin(3))
        state.replicas[0].term = 65534
        self.assertEqual(do(state, stand(0)), [[65535]])
        self.refuses(state, stand(0), FULL)
        self.assertEqual(do(state, stand(1)), [[1]])

    def test_room_under_way_for_three(self):
        state = filled_to(self.standing(), 62)
        self.assertEqual(do(state, stand(1)), [[1]])
        self.assertEqual(len(state.under_way), 64)
        for count in (63, 64):
            self.refuses(filled_to(self.standing(), count), stand(1), FULL)

    def test_room_under_way_for_five(self):
        state = filled_to(self.standing(5), 60)
        self.assertEqual(do(state, stand(1)), [[1]])
        self.assertEqual(len(state.under_way), 64)
        for count in (61, 62, 63, 64):
            self.refuses(filled_to(self.standing(5), count), stand(1), FULL)

    def test_room_by_stands_alone(self):
        self.assertEqual(told(begin(3), *[stand(0)] * 33, lose(1), stand(0), lose(2), stand(0))[32:],
                         [[32], FULL, [0], FULL, [0], [33]])

    def test_where_several_are_due(self):
        state = filled_to(state_after(*led(), beat(0)), 64)
        state.replicas[1].term = 65535
        self.refuses(state, stand(3), NONE)
        self.refuses(state, stand(0), ROLE)
        self.refuses(state, stand(1), FULL)
        state.replicas[0].term = 65535
        self.refuses(state, stand(0), ROLE)


class TestPropose(CallsCase):
    def test_put_behind_the_log_with_its_term(self):
        state = self.leading()
        self.assertEqual(do(state, propose(0, 8), propose(0, 0)), [[1], [2]])
        state.replicas[0].term = 3
        self.assertEqual(do(state, propose(0, 8)), [[3]])
        self.assertEqual(replica_row(state.replicas[0]),
                         (0, 3, 1, [(1, 8), (1, 0), (3, 8)], LEADS, 0, [0, 1], [1, 1, 1], [0, 0, 0]))
        self.assertEqual(rows(state), [])

    def test_the_largest_value(self):
        state = self.leading()
        self.assertEqual(do(state, propose(0, MOST_VALUE)), [[1]])
        self.assertEqual(state.replicas[0].log, [(1, MOST_VALUE)])
        for v in (MOST_VALUE + 1, MOST_VALUE + 2, LARGEST):
            self.refuses(state, propose(0, v), WRONG)

    def test_no_such_replica(self):
        self.assertEqual(told(propose(0, 0)), [NONE])
        state = self.leading()
        for i in (3, 4, LARGEST):
            self.refuses(state, propose(i, 0), NONE)

    def test_who_does_not_lead(self):
        self.refuses(self.leading(), propose(1, 0), ROLE)
        self.refuses(self.standing(), propose(0, 0), ROLE)
        self.refuses(state_after(begin(3)), propose(0, 0), ROLE)

    def test_a_log_of_32_entries(self):
        state = self.leading()
        self.assertEqual(do(state, *[propose(0, v) for v in range(32)]), [[k] for k in range(1, 33)])
        self.refuses(state, propose(0, 32), FULL)
        self.assertEqual(state.replicas[0].log, [(1, v) for v in range(32)])

    def test_where_several_are_due(self):
        state = self.leading()
        for replica in state.replicas:
            replica.log = [(1, v) for v in range(32)]
        self.refuses(state, propose(3, MOST_VALUE + 1), NONE)
        self.refuses(state, propose(1, MOST_VALUE + 1), WRONG)
        self.refuses(state, propose(0, MOST_VALUE + 1), WRONG)
        self.refuses(state, propose(1, 0), ROLE)
        self.refuses(state, propose(0, 0), FULL)


class TestBeat(CallsCase):
    def test_nothing_to_tell(self):
        state = self.leading()
        self.assertEqual(do(state, beat(0)), [[2]])
        self.assertEqual(rows(state), [(4, 2, 0, 1, 1, 0, 0, 0, []), (5, 2, 0, 2, 1, 0, 0, 0, [])])

    def test_all_others_in_order(self):
        self.assertEqual(told(*led(5), beat(0))[-1], [4])
        state = state_after(begin(5), stand(2), deliver(1), deliver(2), deliver(5), deliver(6), lose(3), lose(4))
        self.assertEqual(do(state, beat(2)), [[4]])
        self.assertEqual([(row[0], row[2], row[3]) for row in rows(state)],
                         [(7, 2, 0), (8, 2, 1), (9, 2, 3), (10, 2, 4)])

    def test_at_most_four_entries(self):
        for count in (1, 3, 4, 5, 32):
            state = self.leading()
            do(state, *[propose(0, v) for v in range(count)])
            do(state, beat(0))
            entries = [(1, v) for v in range(min(count, 4))]
            self.assertEqual([row[-1] for row in rows(state)], [entries, entries])

    def test_by_what_is_sent_next(self):
        state = self.leading(5)
        replica = state.replicas[0]
        replica.log = [(1, 10), (1, 11), (2, 12), (3, 13), (3, 14), (3, 15), (4, 16)]
        replica.term = 4
        replica.settled = 3
        replica.next_entry = [9, 1, 3, 4, 8]
        self.assertEqual(do(state, beat(0)), [[4]])
        self.assertEqual([row[1:] for row in rows(state)], [
            (2, 0, 1, 4, 0, 0, 3, [(1, 10), (1, 11), (2, 12), (3, 13)]),
            (2, 0, 2, 4, 2, 1, 3, [(2, 12), (3, 13), (3, 14), (3, 15)]),
            (2, 0, 3, 4, 3, 2, 3, [(3, 13), (3, 14), (3, 15), (4, 16)]),
            (2, 0, 4, 4, 7, 4, 3, [])])

    def test_what_was_said_does_not_change_later(self):
        state = state_after(*led(), propose(0, 1), beat(0))
        before = rows(state)
        do(state, propose(0, 2))
        self.assertEqual(rows(state), before)

    def test_beat_leaves_the_replica_as_it_is(self):
        state = state_after(*led(), propose(0, 1))
        before = replica_row(state.replicas[0])
        do(state, beat(0))
        self.assertEqual(replica_row(state.replicas[0]), before)

    def test_no_such_replica(self):
        self.assertEqual(told(beat(0)), [NONE])
        state = self.leading()
        for i in (3, 4, LARGEST):
            self.refuses(state, beat(i), NONE)

    def test_who_does_not_lead(self):
        self.refuses(self.leading(), beat(1), ROLE)
        self.refuses(self.standing(), beat(0), ROLE)

    def test_room_under_way(self):
        for n, most in ((3, 62), (5, 60)):
            state = filled_to(state_after(*led(n), beat(0)), most)
            self.assertEqual(do(state, beat(0)), [[n - 1]])
            self.assertEqual(len(state.under_way), 64)
            for count in range(most + 1, 65):
                self.refuses(filled_to(state_after(*led(n), beat(0)), count), beat(0), FULL)

    def test_where_several_are_due(self):
        state = filled_to(state_after(*led(), beat(0)), 64)
        self.refuses(state, beat(3), NONE)
        self.refuses(state, beat(1), ROLE)
        self.refuses(state, beat(0), FULL)


class TestDeliver(CallsCase):
    def test_how_many_are_said_on_each_kind(self):
        line = [begin(3), stand(0), deliver(1), deliver(3), beat(0), deliver(4), deliver(6)]
        self.assertEqual(told(*line), [[3], [1], [1], [0], [2], [1], [0]])

    def test_it_is_under_way_no_more(self):
        self.assertEqual(told(begin(3), stand(0), deliver(1), deliver(1), lose(1), copy(1))[3:], [NONE, NONE, NONE])

    def test_the_reply_is_behind_all_others(self):
        state = state_after(begin(3), stand(0), deliver(1))
        self.assertEqual(rows(state), [(2, 0, 0, 2, 1, 0, 0, 0, []), (3, 1, 1, 0, 1, 1, 0, 0, [])])

    def test_only_whom_it_is_said_to_does_something(self):
        state = self.standing()
        before = snapshot(state)[0]
        do(state, deliver(2))
        after = snapshot(state)[0]
        self.assertEqual(after[:2], before[:2])
        self.assertNotEqual(after[2], before[2])

    def test_in_any_order(self):
        state = state_after(begin(3), stand(0), deliver(2), deliver(1), deliver(4))
        self.assertEqual(state.replicas[0].voters, [0, 1])
        self.assertEqual([row[0] for row in rows(state)], [3])

    def test_none_such(self):
        self.assertEqual(told(deliver(0), deliver(1)), [NONE, NONE])
        state = self.standing()
        for m in (0, 3, 4, LARGEST):
            self.refuses(state, deliver(m), NONE)
        self.assertEqual(told(begin(3), stand(0), lose(1), deliver(1), deliver(2))[3:], [NONE, [1]])

    def test_with_64_under_way(self):
        state = filled_to(self.standing(), 64)
        self.assertEqual(do(state, deliver(64)), [[1]])
        self.assertEqual([row[0] for row in rows(state)], list(range(1, 64)) + [65])


class TestLose(CallsCase):
    def test_it_is_under_way_no_more(self):
        state = self.standing()
        replicas = snapshot(state)[0]
        self.assertEqual(do(state, lose(1)), [[0]])
        self.assertEqual(rows(state), [(2, 0, 0, 2, 1, 0, 0, 0, [])])
        self.assertEqual(snapshot(state)[0], replicas)
        self.assertEqual(do(state, deliver(1), copy(1), lose(1)), [NONE] * 3)

    def test_its_number_is_not_given_again(self):
        self.assertEqual(told(begin(3), stand(0), lose(2), copy(1))[2:], [[0], [3]])

    def test_none_such(self):
        self.assertEqual(told(lose(0), lose(1)), [NONE, NONE])
        state = self.standing()
        for m in (0, 3, LARGEST):
            self.refuses(state, lose(m), NONE)


class TestCopy(CallsCase):
    def test_one_more_like_it_behind_all_others(self):
        state = state_after(*led(), propose(0, 7), beat(0))
        self.assertEqual(do(state, copy(4)), [[6]])
        self.assertEqual(rows(state), [(4, 2, 0, 1, 1, 0, 0, 0, [(1, 7)]), (5, 2, 0, 2, 1, 0, 0, 0, [(1, 7)]),
                                       (6, 2, 0, 1, 1, 0, 0, 0, [(1, 7)])])

    def test_both_are_delivered(self):
        self.assertEqual(told(begin(3), stand(0), copy(1), deliver(3), deliver(1))[2:], [[3], [1], [1]])

    def test_a_copy_of_a_copy(self):
        self.assertEqual(told(begin(3), stand(0), copy(2), lose(2), copy(3), lose(3), copy(4))[2:],
                         [[3], [0], [4], [0], [5]])

    def test_none_such(self):
        self.assertEqual(told(copy(0), copy(1)), [NONE, NONE])
        state = self.standing()
        for m in (0, 3, LARGEST):
            self.refuses(state, copy(m), NONE)

    def test_64_under_way(self):
        state = filled_to(self.standing(), 63)
        self.assertEqual(do(state, copy(1)), [[64]])
        self.refuses(state, copy(1), FULL)
        self.assertEqual(do(state, lose(5), copy(64)), [[0], [65]])

    def test_where_several_are_due(self):
        state = filled_to(self.standing(), 64)
        self.refuses(state, copy(65), NONE)
        self.refuses(state, copy(0), NONE)

    def test_a_refused_copy_uses_up_no_number(self):
        self.assertEqual(told(begin(3), stand(0), copy(9), copy(1))[2:], [NONE, [3]])


if __name__ == "__main__":
    unittest.main()
