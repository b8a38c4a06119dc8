"""The calls that only tell: look, log, settled, net, message."""

import unittest

from oneleader.replica import LEADS
from tests.helper import (LARGEST, MOST_VALUE, NONE, WRONG, beat, begin, copy, crash, deliver, deliver_all, do, led,
                          log, look, lose, message, net, propose, set_values, settled, snapshot, stand, state_after,
                          told)

FAR = (2 ** 31, 2 ** 32, 2 ** 63 - 3, LARGEST)


def last(*calls):
    return told(*calls)[-1]


def looked(role, first, voters, sent_next, same):
    """An answer of look, put together as the document tells it."""
    return [role] + [number for row in (first, voters, sent_next, same) for number in [len(row)] + row]


def settled_by_both(count):
    """Replica 0 leads, has so many entries, and 1 has them too; 0 knows them to be settled."""
    line = led() + [propose(0, 100 + k) for k in range(count)]
    number = 4
    for four in range((count + 3) // 4):
        line += [beat(0), lose(number + 1), deliver(number), deliver(number + 2)]
        number += 3
    return line


def entries_of(count):
    return [number for k in range(count) for number in (1, 100 + k)]


class TestNothingChanges(unittest.TestCase):
    LINE = led() + [propose(0, 7), propose(0, 8), beat(0), deliver(4), deliver(6), copy(5), stand(2), deliver(8)]

    def test_the_state_stays(self):
        for n in (0, 3):
            state = state_after(*(self.LINE if n else []))
            before = snapshot(state)
            for number in (0, 1, 2, 3, 4, 5, 6, 7, 8, 9, 10) + FAR:
                do(state, look(number), log(number), settled(number), net(), message(number))
                self.assertEqual(snapshot(state), before)

    def test_asked_twice_they_answer_the_same(self):
        asked = [look(0), look(1), look(2), log(0), log(1), settled(0), net(), message(5), message(7), message(99)]
        given = told(*self.LINE, *asked, *asked)[len(self.LINE):]
        self.assertEqual(given[:len(asked)], given[len(asked):])

    def test_a_line_goes_on_as_without_them(self):
        asked = [look(0), log(0), settled(0), net(), message(5), look(9), log(9), settled(9), message(0)]
        mixed = []
        for call in self.LINE:
            mixed += asked + [call]
        given = told(*mixed)
        self.assertEqual(given[len(asked)::len(asked) + 1], told(*self.LINE))

    def test_what_is_told_is_not_what_is_kept(self):
        state = state_after(*self.LINE)
        before = snapshot(state)
        for call in (look(0), log(0), settled(0), net(), message(5)):
            do(state, call)[0].clear()
        self.assertEqual(snapshot(state), before)


class TestNoSuchReplica(unittest.TestCase):
    def test_before_any_begin(self):
        for call in (look, log, settled):
            for i in (0, 1, 2, 3, 5) + FAR:
                self.assertEqual(told(call(i)), [NONE])
            self.assertEqual(told(begin(4), call(0)), [WRONG, NONE])

    def test_just_too_large_and_far_too_large(self):
        for n in (3, 5):
            for call in (look, log, settled):
                self.assertNotEqual(last(begin(n), call(n - 1)), NONE)
                for i in (n, n + 1) + FAR:
                    self.assertEqual(last(begin(n), call(i)), NONE)
                    self.assertEqual(last(*led(n), call(i)), NONE)

    def test_after_a_begin_with_fewer(self):
        for call in (look, log, settled):
            self.assertEqual(last(begin(5), begin(3), call(3)), NONE)
            self.assertNotEqual(last(begin(3), begin(5), call(4)), NONE)


class TestLook(unittest.TestCase):
    def test_at_first(self):
        for n in (3, 5):
            for i in range(n):
                self.assertEqual(last(begin(n), look(i)), looked(0, [0, 0, 0, 0], [], [1] * n, [0] * n))

    def test_number_by_number(self):
        self.assertEqual(last(begin(3), look(0)), [0, 4, 0, 0, 0, 0, 0, 3, 1, 1, 1, 3, 0, 0, 0])

    def test_each_value_in_its_place(self):
        state = state_after(begin(5))
        set_values(state.replicas[3], term=9, vote=2, log=[(1, 10), (2, 11), (9, 12)], role=LEADS, settled=1,
                   voters=[3, 0, 4], next_entry=[4, 5, 6, 7, 8], same=[0, 1, 2, 3, 30])
        self.assertEqual(do(state, look(3)),
                         [[2, 4, 9, 2, 3, 1, 3, 3, 0, 4, 5, 4, 5, 6, 7, 8, 5, 0, 1, 2, 3, 30]])

    def test_one_that_stands(self):
        self.assertEqual(last(begin(3), stand(2), look(2)), looked(1, [1, 3, 0, 0], [2], [1] * 3, [0] * 3))
        self.assertEqual(last(begin(3), stand(2), stand(2), look(2)), looked(1, [2, 3, 0, 0], [2], [1] * 3, [0] * 3))

    def test_after_vote_for_me(self):
        line = [begin(3), stand(0), stand(0), deliver(4)]
        self.assertEqual(last(*line, look(2)), looked(0, [2, 1, 0, 0], [], [1] * 3, [0] * 3))
        # 2 stands in term 1 and hears of term 2: it stands no more, and votes for whom asks.
        self.assertEqual(last(begin(3), stand(2), stand(0), stand(0), deliver(6), look(2)),
                         looked(0, [2, 1, 0, 0], [], [1] * 3, [0] * 3))
        # In the same term its vote is its own.
        self.assertEqual(last(begin(3), stand(2), stand(0), deliver(4), look(2)),
                         looked(1, [1, 3, 0, 0], [2], [1] * 3, [0] * 3))

    def test_after_vote_for_me_that_is_refused_in_a_greater_term(self):
        line = led() + [propose(0, 7), beat(0), deliver(4), stand(2), lose(7), lose(8), stand(2), deliver(10), look(1)]
        self.assertEqual(last(*line), looked(0, [2, 0, 1, 0], [], [1] * 3, [0] * 3))

    def test_after_about_a_vote(self):
        line = [begin(5), stand(0), *deliver_all(1, 2, 3, 4)]
        self.assertEqual(last(*line, deliver(7), look(0)), looked(1, [1, 1, 0, 0], [0, 3], [1] * 5, [0] * 5))
        self.assertEqual(last(*line, deliver(7), deliver(5), look(0)),
                         looked(2, [1, 1, 0, 0], [0, 3, 1], [1] * 5, [0] * 5))
        # Who leads already counts no more votes.
        self.assertEqual(last(*line, *deliver_all(7, 5, 8, 6), look(0)),
                         looked(2, [1, 1, 0, 0], [0, 3, 1], [1] * 5, [0] * 5))

    def test_after_about_a_vote_with_a_log(self):
        # 1 has two entries of term 1, stands in term 2 and is voted for by 2.
        line = led() + [propose(0, 7), propose(0, 8), beat(0), deliver(4), stand(1), deliver(8), deliver(9)]
        self.assertEqual(last(*line, look(1)), looked(2, [2, 2, 2, 0], [1, 2], [3] * 3, [0] * 3))

    def test_after_a_no_about_a_vote(self):
        line = [begin(3), stand(1), stand(0), deliver(3), deliver(5), look(0)]
        self.assertEqual(last(*line), looked(1, [1, 1, 0, 0], [0], [1] * 3, [0] * 3))

    def test_after_have_these(self):
        line = led() + [propose(0, 7), propose(0, 8), beat(0), deliver(5)]
        self.assertEqual(last(*line, look(2)), looked(0, [1, 0, 2, 0], [], [1] * 3, [0] * 3))
        self.assertEqual(last(*line, deliver(6), beat(0), deliver(8), look(2)),
                         looked(0, [1, 0, 2, 2], [], [1] * 3, [0] * 3))
        # What is said doesn't change who says it.
        self.assertEqual(last(*line, look(0)), looked(2, [1, 1, 2, 0], [0, 1], [1] * 3, [0] * 3))

    def test_after_have_these_one_that_stood(self):
        line = [begin(3), stand(0), stand(2), deliver(1), deliver(5), beat(0), deliver(7), look(2)]
        self.assertEqual(last(*line), looked(0, [1, 3, 0, 0], [], [1] * 3, [0] * 3))

    def test_after_about_entries_a_yes(self):
        line = led() + [propose(0, 7), propose(0, 8), beat(0), deliver(5), deliver(6)]
        self.assertEqual(last(*line, look(0)), looked(2, [1, 1, 2, 2], [0, 1], [1, 1, 3], [0, 0, 2]))

    def test_after_about_entries_a_no(self):
        line = led() + [propose(0, 7), propose(0, 8), beat(0), deliver(4), stand(1), deliver(8), deliver(9), beat(1)]
        line += [deliver(11), deliver(12)]
        self.assertEqual(last(*line, look(1)), looked(2, [2, 2, 2, 0], [1, 2], [3, 3, 2], [0] * 3))

    def test_who_led_keeps_next_and_same(self):
        line = led() + [propose(0, 7), beat(0), deliver(4), deliver(6), stand(1), deliver(7), look(0)]
        self.assertEqual(last(*line), looked(0, [2, 2, 1, 1], [], [1, 2, 1], [0, 1, 0]))

    def test_a_full_log(self):
        self.assertEqual(last(*settled_by_both(32), look(0)),
                         looked(2, [1, 1, 32, 32], [0, 1], [1, 33, 1], [0, 32, 0]))


class TestLog(unittest.TestCase):
    def test_no_entries(self):
        for n in (3, 5):
            for i in range(n):
                self.assertEqual(last(begin(n), log(i)), [0, 0])

    def test_entries_in_order_with_their_terms(self):
        line = led() + [propose(0, 7), propose(0, 0), propose(0, MOST_VALUE)]
        self.assertEqual(last(*line, log(0)), [3, 6, 1, 7, 1, 0, 1, MOST_VALUE])
        self.assertEqual(last(*line, log(1)), [0, 0])
        line = line + [beat(0), deliver(4), stand(1), stand(1), deliver(10), deliver(11), propose(1, 5), log(1)]
        self.assertEqual(last(*line), [4, 8, 1, 7, 1, 0, 1, MOST_VALUE, 3, 5])

    def test_32_entries(self):
        line = led() + [propose(0, 100 + k) for k in range(32)]
        self.assertEqual(last(*line, log(0)), [32, 64] + entries_of(32))
        self.assertEqual(last(*line, propose(0, 5), log(0)), [32, 64] + entries_of(32))
        self.assertEqual(last(*settled_by_both(32), log(1)), [32, 64] + entries_of(32))

    def test_every_length(self):
        for count in range(33):
            line = led() + [propose(0, 100 + k) for k in range(count)]
            self.assertEqual(last(*line, log(0)), [count, 2 * count] + entries_of(count))

    def test_a_log_that_was_overwritten(self):
        line = led() + [propose(0, 1), propose(0, 2), stand(1), lose(4), lose(5), stand(1), deliver(7), deliver(8),
                        propose(1, 3), beat(1), deliver(9), log(0)]
        self.assertEqual(last(*line), [1, 2, 3, 3])


class TestSettled(unittest.TestCase):
    def test_none(self):
        for n in (3, 5):
            for i in range(n):
                self.assertEqual(last(begin(n), settled(i)), [0, 0])
        self.assertEqual(last(*led(), propose(0, 7), settled(0)), [0, 0])
        self.assertEqual(last(*led(), propose(0, 7), beat(0), deliver(4), settled(1)), [0, 0])

    def test_some(self):
        line = settled_by_both(3) + [propose(0, 1), propose(0, 2)]
        self.assertEqual(told(*line, settled(0), log(0))[-2:],
                         [[3, 6] + entries_of(3), [5, 10] + entries_of(3) + [1, 1, 1, 2]])

    def test_all(self):
        for count in (1, 4, 5, 32):
            self.assertEqual(last(*settled_by_both(count), settled(0)), [count, 2 * count] + entries_of(count))

    def test_one_that_follows_knows_later(self):
        line = settled_by_both(2)
        self.assertEqual(told(*line, settled(1), beat(0), deliver(7), settled(1))[-4::3],
                         [[0, 0], [2, 4] + entries_of(2)])

    def test_after_a_crash(self):
        self.assertEqual(last(*settled_by_both(2), crash(0), settled(0)), [0, 0])

    def test_one_that_leads_no_more_still_knows(self):
        line = settled_by_both(2) + [stand(1), deliver(7), look(0), settled(0)]
        self.assertEqual(told(*line)[-2:], [looked(0, [2, 2, 2, 2], [], [1, 3, 1], [0, 2, 0]), [2, 4] + entries_of(2)])


class TestNet(unittest.TestCase):
    def test_nothing_is_under_way(self):
        self.assertEqual(told(net()), [[0, 0]])
        self.assertEqual(told(begin(4), net()), [WRONG, [0, 0]])
        self.assertEqual(last(begin(3), net()), [0, 0])
        self.assertEqual(last(*led(), net()), [0, 0])

    def test_in_the_order_in_which_they_were_said_or_doubled(self):
        line = [begin(3), stand(0), stand(1), copy(1), copy(4)]
        self.assertEqual(last(*line, net()), [6, 6, 1, 2, 3, 4, 5, 6])
        self.assertEqual(last(*line, lose(2), deliver(1), copy(3), net()), [6, 6, 3, 4, 5, 6, 7, 8])
        self.assertEqual(last(*line, deliver(6), deliver(5), lose(1), lose(8), copy(7), net()),
                         [5, 5, 2, 3, 4, 7, 9])

    def test_one(self):
        self.assertEqual(last(begin(3), stand(0), lose(1), net()), [1, 1, 2])

    def test_64(self):
        line = [begin(5)] + [stand(k % 5) for k in range(16)]
        self.assertEqual(last(*line, net()), [64, 64] + list(range(1, 65)))
        self.assertEqual(last(*line, copy(1), stand(0), net()), [64, 64] + list(range(1, 65)))
        self.assertEqual(last(*line, deliver(10), lose(20), copy(1), net()),
                         [64, 64] + [m for m in range(1, 65) if m not in (10, 20)] + [65, 66])

    def test_doubled_to_64(self):
        line = [begin(3), stand(0)] + [copy(1)] * 62
        self.assertEqual(last(*line, net()), [64, 64] + list(range(1, 65)))

    def test_a_begin_ends_it(self):
        self.assertEqual(last(begin(3), stand(0), begin(3), net()), [0, 0])
        self.assertEqual(last(begin(3), stand(0), begin(3), stand(1), net()), [2, 2, 1, 2])
        self.assertEqual(last(begin(3), stand(0), begin(2), net()), [2, 2, 1, 2])


class TestMessage(unittest.TestCase):
    def test_before_any_begin(self):
        for m in (0, 1, 2) + FAR:
            self.assertEqual(told(message(m)), [NONE])

    def test_one_that_never_was(self):
        for m in (0, 3, 4, 64, 65) + FAR:
            self.assertEqual(last(begin(3), stand(0), message(m)), NONE)

    def test_one_that_was_delivered_or_lost(self):
        self.assertEqual(told(begin(3), stand(0), deliver(1), lose(2), message(1), message(2))[-2:], [NONE, NONE])

    def test_one_of_before_a_begin(self):
        self.assertEqual(last(begin(3), stand(0), begin(3), message(1)), NONE)

    def test_vote_for_me(self):
        self.assertEqual(told(begin(3), stand(1), message(1), message(2))[2:],
                         [[0, 8, 1, 0, 1, 0, 1, 0, 0, 0, 0], [0, 8, 2, 0, 1, 2, 1, 0, 0, 0, 0]])
        line = led() + [propose(0, 7), propose(0, 8), beat(0), deliver(4), stand(1), stand(1)]
        self.assertEqual(last(*line, message(10)), [0, 8, 10, 0, 1, 2, 3, 2, 1, 0, 0])

    def test_about_a_vote(self):
        line = [begin(3), stand(0), deliver(1), stand(2), deliver(5)]
        self.assertEqual(told(*line, message(3), message(6))[-2:],
                         [[1, 8, 3, 1, 1, 0, 1, 1, 0, 0, 0], [1, 8, 6, 1, 1, 2, 1, 0, 0, 0, 0]])

    def test_have_these_with_0_to_4_entries(self):
        for count in (0, 1, 2, 3, 4, 5, 32):
            line = led() + [propose(0, 100 + k) for k in range(count)] + [beat(0)]
            told_of = min(count, 4)
            for m, receiver in ((4, 1), (5, 2)):
                self.assertEqual(last(*line, message(m)),
                                 [2, 8, m, 2, 0, receiver, 1, 0, 0, 0, 2 * told_of] + entries_of(told_of))

    def test_have_these_behind_entries_that_are_there(self):
        for more in (0, 1, 2, 3, 4, 5):
            line = settled_by_both(2) + [propose(0, k) for k in range(more)] + [beat(0), message(7)]
            told_of = min(more, 4)
            self.assertEqual(last(*line), [2, 8, 7, 2, 0, 1, 1, 2, 1, 2, 2 * told_of] +
                             [number for k in range(told_of) for number in (1, k)])

    def test_have_these_with_entries_of_several_terms(self):
        line = led() + [propose(0, 7), beat(0), deliver(4), stand(1), deliver(7), deliver(9), propose(1, 8)]
        # 2 has nothing: a no first, then next is 1.
        line += [beat(1), deliver(11), deliver(12), beat(1), message(13), message(14)]
        self.assertEqual(told(*line)[-2:], [[2, 8, 13, 2, 1, 0, 2, 1, 1, 0, 2, 2, 8],
                                            [2, 8, 14, 2, 1, 2, 2, 0, 0, 0, 4, 1, 7, 2, 8]])

    def test_about_entries(self):
        line = led() + [propose(0, 7), propose(0, 8), beat(0), deliver(4), message(6)]
        self.assertEqual(last(*line), [3, 8, 6, 3, 1, 0, 1, 1, 2, 0, 0])
        line = led() + [propose(0, 7), propose(0, 8), beat(0), stand(1), stand(1), deliver(4), message(10)]
        self.assertEqual(last(*line), [3, 8, 10, 3, 1, 0, 3, 0, 0, 0, 0])

    def test_a_doubled_one_of_each_kind(self):
        lines = ([begin(3), stand(0)], [begin(3), stand(0), deliver(1)],
                 led() + [propose(0, 7), propose(0, 8), beat(0)], led() + [propose(0, 7), beat(0), deliver(5)])
        for kind, line in enumerate(lines):
            m = last(*line, net())[-1]
            given = told(*line, copy(m), message(m), message(m + 1), lose(m), message(m + 1), message(m))[-6:]
            self.assertEqual((given[0], given[1][0], given[1][2]), ([m + 1], kind, m))
            alike = given[1][:2] + [m + 1] + given[1][3:]
            self.assertEqual((given[2], given[4], given[5]), (alike, alike, NONE))

    def test_it_tells_what_was_said_then(self):
        line = led() + [propose(0, 7), beat(0)]
        later = [propose(0, 8), crash(0), stand(1), stand(2), deliver(6)]
        self.assertEqual(last(*line, *later, message(4)), [2, 8, 4, 2, 0, 1, 1, 0, 0, 0, 2, 1, 7])


if __name__ == "__main__":
    unittest.main()
