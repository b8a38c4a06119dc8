"""The interface: how calls are handed in and answers given back."""

import contextlib
import io
import unittest

import oneleader.desk
from tests.helper import (FULL, LARGEST, NONE, ROLE, WRONG, beat, begin, copy, crash, deliver, led, log, look, lose,
                          message, net, propose, settled, stand, told)


class TestForm(unittest.TestCase):
    def test_each_answer_has_its_count_before_it(self):
        calls = [0, 3, 1, 0, 4, 1, 5, 2, 4, 3, 2, 0, 7, 3, 0, 6, 4]
        self.assertEqual(oneleader.desk.answers(calls), [1, 3, 1, 1, 1, 1, 1, 0, 1, 0, 1, 1, 1, 2, 1, 6])

    def test_a_refusal_is_its_number_alone(self):
        self.assertEqual(oneleader.desk.answers([0, 4]), [1, -1])
        self.assertEqual(oneleader.desk.answers([1, 0, 2, 0, 0, 3, 0, 4, 0, 5, 0, 6, 0]), [1, -4] * 6)
        self.assertEqual(oneleader.desk.answers([7, 0, 8, 0, 9, 0, 10, 0, 12, 0]), [1, -4] * 5)
        self.assertEqual(oneleader.desk.answers([0, 3, 7, 3, 8, 3, 9, 3, 10, 3, 12, 1]), [1, 3] + [1, -4] * 5)

    def behind(self, calls, asked):
        """What is answered behind a line of calls, all its numbers."""
        before = oneleader.desk.answers(calls)
        given = oneleader.desk.answers(calls + asked)
        self.assertEqual(given[:len(before)], before)
        return given[len(before):]

    # Replica 0 leads and has the entries 7 and 8; 1 has them too and 0 knows it; messages 5 and 7 are under way.
    LINE = [0, 3, 1, 0, 4, 1, 5, 2, 4, 3, 2, 0, 7, 2, 0, 8, 3, 0, 4, 4, 4, 6, 6, 5]

    def test_crash(self):
        self.assertEqual(self.behind([0, 3], [7, 2]), [1, 0])

    def test_look(self):
        self.assertEqual(self.behind([0, 5], [8, 4]), [19, 0, 4, 0, 0, 0, 0, 0, 5, 1, 1, 1, 1, 1, 5, 0, 0, 0, 0, 0])
        self.assertEqual(self.behind(self.LINE, [8, 0]), [17, 2, 4, 1, 1, 2, 2, 2, 0, 1, 3, 1, 3, 1, 3, 0, 2, 0])

    def test_log(self):
        self.assertEqual(self.behind(self.LINE, [9, 1]), [6, 2, 4, 1, 7, 1, 8])
        self.assertEqual(self.behind(self.LINE, [9, 2]), [2, 0, 0])

    def test_settled(self):
        self.assertEqual(self.behind(self.LINE, [10, 0]), [6, 2, 4, 1, 7, 1, 8])
        self.assertEqual(self.behind(self.LINE, [10, 1]), [2, 0, 0])

    def test_net(self):
        self.assertEqual(self.behind(self.LINE, [11]), [4, 2, 2, 5, 7])
        self.assertEqual(oneleader.desk.answers([11]), [2, 0, 0])

    def test_message(self):
        self.assertEqual(self.behind(self.LINE, [12, 7]), [15, 2, 8, 7, 2, 0, 2, 1, 0, 0, 0, 4, 1, 7, 1, 8])
        self.assertEqual(self.behind([0, 3, 1, 2], [12, 1]), [11, 0, 8, 1, 0, 2, 0, 1, 0, 0, 0, 0])

    def test_whole_numbers_only(self):
        asked = [7, 1, 8, 0, 8, 1, 9, 0, 10, 0, 11, 12, 5, 12, 7, 12, 99]
        given = oneleader.desk.answers(self.LINE + asked)
        self.assertIs(type(given), list)
        self.assertEqual({type(number) for number in given}, {int})

    def test_propose_alone_takes_two_numbers(self):
        self.assertEqual(told(propose(0, 0), propose(1, 1), begin(3)), [NONE, NONE, [3]])

    def test_net_alone_takes_no_number(self):
        self.assertEqual(told(net(), net(), begin(3), net(), stand(0), net()),
                         [[0, 0], [0, 0], [3], [0, 0], [1], [2, 2, 1, 2]])
        for call in (crash, look, log, settled, message):
            self.assertEqual(told(call(11), call(11), begin(3)), [NONE, NONE, [3]])


class TestNothingIsKept(unittest.TestCase):
    def calls(self):
        line = led() + [propose(0, 9), beat(0), copy(4), look(0), log(0), settled(0), net(), message(4), deliver(4),
                        lose(5), crash(0), look(0), stand(1), beat(7), look(7), message(1)]
        return [number for call in line for number in call]

    def test_what_is_handed_in_stays_as_it_was(self):
        calls = self.calls()
        before = list(calls)
        oneleader.desk.answers(calls)
        self.assertEqual(calls, before)

    def test_what_is_handed_in_is_not_changed_for_a_while_either(self):
        class Watched(list):
            def refuse(self, *given):
                raise AssertionError("changed")

            append = extend = insert = pop = remove = clear = sort = reverse = refuse
            __setitem__ = __delitem__ = __iadd__ = __imul__ = refuse

        oneleader.desk.answers(Watched(self.calls()))

    def test_twice_the_same(self):
        calls = self.calls()
        first = oneleader.desk.answers(calls)
        self.assertEqual(oneleader.desk.answers(calls), first)

    def test_a_line_does_not_know_the_line_before(self):
        oneleader.desk.answers(self.calls())
        self.assertEqual(told(stand(0), deliver(1), copy(4), look(0), log(0), message(4), net()),
                         [NONE] * 6 + [[0, 0]])

    def test_what_is_given_back_is_the_callers_own(self):
        first = oneleader.desk.answers([0, 3])
        first.append(7)
        self.assertEqual(oneleader.desk.answers([0, 3]), [1, 3])

    def test_nothing_is_printed(self):
        out, err = io.StringIO(), io.StringIO()
        with contextlib.redirect_stdout(out), contextlib.redirect_stderr(err):
            oneleader.desk.answers(self.calls())
        self.assertEqual((out.getvalue(), err.getvalue()), ("", ""))


class TestEdges(unittest.TestCase):
    def test_the_largest_number_in_each_place_before_begin(self):
        most = LARGEST
        self.assertEqual(
            told(begin(most), stand(most), propose(most, most), beat(most), deliver(most), lose(most), copy(most),
                 crash(most), look(most), log(most), settled(most), message(most)),
            [WRONG] + [NONE] * 11)

    def test_the_largest_number_in_each_place_after_begin(self):
        most = LARGEST
        line = led() + [begin(most), stand(most), propose(most, 0), propose(0, most), propose(most, most),
                        beat(most), deliver(most), lose(most), copy(most), crash(most), look(most), log(most),
                        settled(most), message(most), propose(0, 5)]
        self.assertEqual(told(*line)[5:], [WRONG, NONE, NONE, WRONG] + [NONE] * 10 + [[1]])

    def test_numbers_about_64_bits(self):
        for number in (2 ** 31, 2 ** 32, 2 ** 32 + 1, 2 ** 62, 2 ** 63 - 1):
            line = led() + [stand(number), beat(number), deliver(number), begin(number), stand(0)]
            self.assertEqual(told(*line)[5:], [NONE, NONE, NONE, WRONG, ROLE])

    def test_two_hundred_calls(self):
        line = led() + [propose(0, v) for v in range(32)]
        line += [propose(0, 0)] * (200 - len(line))
        given = told(*line)
        self.assertEqual(len(given), 200)
        self.assertEqual(given[5:37], [[k] for k in range(1, 33)])
        self.assertEqual(given[37:], [FULL] * 163)

    def test_two_hundred_calls_with_the_longest_answers(self):
        line = led(5) + [propose(0, v) for v in range(32)] + [beat(0)] + [copy(7)] * 60
        line += [net(), log(0), message(70)] * 33
        given = told(*line)
        self.assertEqual(len(given), 200)
        self.assertEqual(given[101], [64, 64] + list(range(7, 71)))
        self.assertEqual(given[102], [32, 64] + [number for v in range(32) for number in (1, v)])
        self.assertEqual(given[103], [2, 8, 70, 2, 0, 1, 1, 0, 0, 0, 8, 1, 0, 1, 1, 1, 2, 1, 3])
        self.assertEqual(given[101:], given[101:104] * 33)

    def test_two_hundred_begins(self):
        self.assertEqual(told(*[begin(3 + 2 * (k % 2)) for k in range(200)]), [[3], [5]] * 100)

    def test_a_term_as_high_as_two_hundred_calls_reach(self):
        line = [begin(3)]
        term = 0
        while len(line) + 3 <= 200:
            term += 1
            line += [stand(0), lose(2 * term - 1), lose(2 * term)]
        given = told(*line)
        self.assertEqual(given[1::3], [[k] for k in range(1, term + 1)])
        self.assertEqual(given[2::3] + given[3::3], [[0]] * (2 * term))


if __name__ == "__main__":
    unittest.main()
