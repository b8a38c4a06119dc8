"""What the tests share: calls by their names, answers apart, and a state as plain values."""

from oneleader.calls import answer
from oneleader.desk import answers
from oneleader.message import Message
from oneleader.replica import Replica
from oneleader.state import State

LARGEST = 9223372036854775807
MOST_VALUE = 4294967295

WRONG = [-1]
ROLE = [-3]
NONE = [-4]
FULL = [-6]


class Numbers:
    """The same row of numbers each time and under each Python."""

    def __init__(self, seed):
        self.last = seed * 2654435761 + 12345

    def below(self, n):
        self.last = (self.last * 6364136223846793005 + 1442695040888963407) % 2 ** 64
        return (self.last >> 33) % n


def begin(n):
    return [0, n]


def stand(i):
    return [1, i]


def propose(i, v):
    return [2, i, v]


def beat(i):
    return [3, i]


def deliver(m):
    return [4, m]


def lose(m):
    return [5, m]


def copy(m):
    return [6, m]


def crash(i):
    return [7, i]


def look(i):
    return [8, i]


def log(i):
    return [9, i]


def settled(i):
    return [10, i]


def net():
    return [11]


def message(m):
    return [12, m]


def deliver_all(*numbers):
    return [deliver(m) for m in numbers]


def told(*calls):
    """What is answered, a list for each call, by way of the interface alone."""
    given = answers([number for call in calls for number in call])
    lists = []
    place = 0
    while place < len(given):
        behind = place + 1 + given[place]
        lists.append(given[place + 1:behind])
        place = behind
    return lists


def do(state, *calls):
    return [answer(state, call[0], call[1:]) for call in calls]


def deliver_everything(state):
    """Delivers what is under way, and what is said on it. Nothing is said on a reply, so two a message are enough."""
    for delivered in range(2 * len(state.under_way)):
        if state.under_way:
            do(state, deliver(next(iter(state.under_way))))
    if state.under_way:
        raise AssertionError("more was said than the document tells")


def state_after(*calls):
    state = State()
    do(state, *calls)
    return state


def led(n=3):
    """Replica 0 leads in term 1, and nothing is under way."""
    if n == 3:
        return [begin(3), stand(0), deliver(1), lose(2), deliver(3)]
    return [begin(5), stand(0), lose(3), lose(4), deliver(1), deliver(2), deliver(5), deliver(6)]


def message_row(message):
    return (message.kind, message.sender, message.receiver, message.term,
            message.a, message.b, message.c, list(message.entries))


def replica_row(replica):
    return (replica.number, replica.term, replica.vote, list(replica.log), replica.role, replica.settled,
            list(replica.voters), list(replica.next_entry), list(replica.same))


def snapshot(state):
    return ([replica_row(replica) for replica in state.replicas],
            [(number, message_row(message)) for number, message in state.under_way.items()],
            state.next_number)


def rows(state):
    """What is under way: number and message, in order."""
    return [(number,) + message_row(message) for number, message in state.under_way.items()]


def set_values(replica, **values):
    for name, value in values.items():
        if not hasattr(replica, name):
            raise AttributeError(name)
        setattr(replica, name, value)


def replica_with(number=0, n=3, **values):
    replica = Replica(number, n)
    set_values(replica, **values)
    return replica


def said_on(replica, *message):
    return [message_row(reply) for reply in replica.hear(Message(*message))]
