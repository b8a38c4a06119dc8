"""The calls. Each gives back the list of the numbers that it answers; a refusal is its number alone."""

from oneleader.replica import LEADS

BAD_NUMBER = -1
NOT_IN_THIS_ROLE = -3
NOT_THERE = -4
NO_ROOM = -6

REPLICA_COUNTS = (3, 5)
MOST_VALUE = 4294967295
MOST_TERM = 65535
MOST_ENTRIES = 32


def begin(state, n):
    if n not in REPLICA_COUNTS:
        return [BAD_NUMBER]
    state.start(n)
    return [n]


def stand(state, i):
    if not state.has_replica(i):
        return [NOT_THERE]
    replica = state.replicas[i]
    if replica.role == LEADS:
        return [NOT_IN_THIS_ROLE]
    if replica.term == MOST_TERM or not state.has_room_for(state.how_many_others()):
        return [NO_ROOM]
    state.say_all(replica.stand())
    return [replica.term]


def propose(state, i, v):
    if not state.has_replica(i):
        return [NOT_THERE]
    if v > MOST_VALUE:
        return [BAD_NUMBER]
    replica = state.replicas[i]
    if replica.role != LEADS:
        return [NOT_IN_THIS_ROLE]
    if len(replica.log) == MOST_ENTRIES:
        return [NO_ROOM]
    return [replica.propose(v)]


def beat(state, i):
    if not state.has_replica(i):
        return [NOT_THERE]
    replica = state.replicas[i]
    if replica.role != LEADS:
        return [NOT_IN_THIS_ROLE]
    if not state.has_room_for(state.how_many_others()):
        return [NO_ROOM]
    return [state.say_all(replica.beat())]


def deliver(state, m):
    if m not in state.under_way:
        return [NOT_THERE]
    message = state.under_way.pop(m)
    return [state.say_all(state.replicas[message.receiver].hear(message))]


def lose(state, m):
    if m not in state.under_way:
        return [NOT_THERE]
    state.under_way.pop(m)
    return [0]


def copy(state, m):
    if m not in state.under_way:
        return [NOT_THERE]
    if not state.has_room_for(1):
        return [NO_ROOM]
    return [state.say(state.under_way[m])]


CALLS_OF_ONE_NUMBER = {0: begin, 1: stand, 3: beat, 4: deliver, 5: lose, 6: copy}
CALLS_OF_TWO_NUMBERS = {2: propose}


def how_many_numbers(call):
    return 2 if call in CALLS_OF_TWO_NUMBERS else 1


def answer(state, call, numbers):
    if call in CALLS_OF_TWO_NUMBERS:
        return CALLS_OF_TWO_NUMBERS[call](state, numbers[0], numbers[1])
    return CALLS_OF_ONE_NUMBER[call](state, numbers[0])
