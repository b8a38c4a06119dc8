"""What the tests share: calls by their names, answers apart, and a state as plain values."""

from oneleader.calls import answer
from oneleader.desk import answers
from oneleader.message import Message
from oneleader.replica import Replica
from oneleader.state import State

LARGEST = 9223372036854775807
MOST_VALUE = 4294967295

WRONG = [-1]
ROLE = [-3]
NONE = [-4]
FULL = [-6]


def begin(n):
    return [0, n]


def stand(i):
    return [1, i]


def propose(i, v):
    return [2, i, v]


def beat(i):
    return [3, i]


def deliver(m):
    return [4, m]


def lose(m):
    return [5, m]


def copy(m):
    return [6, m]


def deliver_all(*numbers):
    return [deliver(m) for m in numbers]


def told(*calls):
    """What is answered, a list for each call, by way of the interface alone."""
    given = answers([number for call in calls for number in call])
    lists = []
    place = 0
    while place < len(given):
        behind = place + 1 + given[place]
        lists.append(given[place + 1:behind])
        place = behind
    return lists


def do(state, *calls):
    return [answer(state, call[0], call[1:]) for call in calls]


def state_after(*calls):
    state = State()
    do(state, *calls)
    return state


def led(n=3):
    """Replica 0 leads in term 1, and nothing is under way."""
    if n == 3:
        return [begin(3), stand(0), deliver(1), lose(2), deliver(3)]
    return [begin(5), stand(0), lose(3), lose(4), deliver(1), deliver(2), deliver(5), deliver(6)]


def message_row(message):
    return (message.kind, message.sender, message.receiver, message.term,
            message.a, message.b, message.c, list(message.entries))


def replica_row(replica):
    return (replica.number, replica.term, replica.vote, list(replica.log), replica.role, replica.settled,
            list(replica.voters), list(replica.next_entry), list(replica.same))


def snapshot(state):
    return ([replica_row(replica) for replica in state.replicas],
            [(number, message_row(message)) for number, message in state.under_way.items()],
            state.next_number)


def rows(state):
    """What is under way: number and message, in order."""
    return [(number,) + message_row(message) for number, message in state.under_way.items()]


def replica_with(number=0, n=3, **values):
    replica = Replica(number, n)
    for name, value in values.items():
        if not hasattr(replica, name):
            raise AttributeError(name)
        setattr(replica, name, value)
    return replica


def said_on(replica, *message):
    return [message_row(reply) for reply in replica.hear(Message(*message))]
