"""The calls. Each gives back the list of the numbers that it answers; a refusal is its number alone."""

from oneleader.replica import LEADS

BAD_NUMBER = -1
NOT_IN_THIS_ROLE = -3
NOT_THERE = -4
NO_ROOM = -6

REPLICA_COUNTS = (3, 5)
MOST_VALUE = 4294967295
MOST_TERM = 65535
MOST_ENTRIES = 32


def begin(state, n):
    if n not in REPLICA_COUNTS:
        return [BAD_NUMBER]
    state.start(n)
    return [n]


def stand(state, i):
    if not state.has_replica(i):
        return [NOT_THERE]
    replica = state.replicas[i]
    if replica.role == LEADS:
        return [NOT_IN_THIS_ROLE]
    if replica.term == MOST_TERM or not state.has_room_for(state.how_many_others()):
        return [NO_ROOM]
    state.say_all(replica.stand())
    return [replica.term]


def propose(state, i, v):
    if not state.has_replica(i):
        return [NOT_THERE]
    if v > MOST_VALUE:
        return [BAD_NUMBER]
    replica = state.replicas[i]
    if replica.role != LEADS:
        return [NOT_IN_THIS_ROLE]
    if len(replica.log) == MOST_ENTRIES:
        return [NO_ROOM]
    return [replica.propose(v)]


def beat(state, i):
    if not state.has_replica(i):
        return [NOT_THERE]
    replica = state.replicas[i]
    if replica.role != LEADS:
        return [NOT_IN_THIS_ROLE]
    if not state.has_room_for(state.how_many_others()):
        return [NO_ROOM]
    return [state.say_all(replica.beat())]


def deliver(state, m):
    if m not in state.under_way:
        return [NOT_THERE]
    heard = state.under_way.pop(m)
    return [state.say_all(state.replicas[heard.receiver].hear(heard))]


def lose(state, m):
    if m not in state.under_way:
        return [NOT_THERE]
    state.under_way.pop(m)
    return [0]


def copy(state, m):
    if m not in state.under_way:
        return [NOT_THERE]
    if not state.has_room_for(1):
        return [NO_ROOM]
    return [state.say(state.under_way[m])]


def crash(state, i):
    if not state.has_replica(i):
        return [NOT_THERE]
    state.replicas[i].forget()
    return [0]


def look(state, i):
    if not state.has_replica(i):
        return [NOT_THERE]
    replica = state.replicas[i]
    first = [replica.term, replica.vote, len(replica.log), replica.settled]
    lists = [first, replica.voters, replica.next_entry, replica.same]
    return with_lists(replica.role, lists)


def log(state, i):
    if not state.has_replica(i):
        return [NOT_THERE]
    return tell_entries(state.replicas[i].log)


def settled(state, i):
    if not state.has_replica(i):
        return [NOT_THERE]
    replica = state.replicas[i]
    return tell_entries(replica.log[:replica.settled])


def net(state):
    return with_lists(len(state.under_way), [list(state.under_way)])


def message(state, m):
    if m not in state.under_way:
        return [NOT_THERE]
    said = state.under_way[m]
    first = [m, said.kind, said.sender, said.receiver, said.term, said.a, said.b, said.c]
    return with_lists(said.kind, [first, terms_and_values(said.entries)])


def with_lists(number, lists):
    """A number, and behind it each list: how many numbers it has, then they."""
    numbers = [number]
    for row in lists:
        numbers.append(len(row))
        numbers.extend(row)
    return numbers


def tell_entries(entries):
    return with_lists(len(entries), [terms_and_values(entries)])


def terms_and_values(entries):
    numbers = []
    for entry in entries:
        numbers.extend(entry)
    return numbers


CALLS_OF_NO_NUMBER = {11: net}
CALLS_OF_ONE_NUMBER = {
    0: begin, 1: stand, 3: beat, 4: deliver, 5: lose, 6: copy, 7: crash, 8: look, 9: log, 10: settled, 12: message}
CALLS_OF_TWO_NUMBERS = {2: propose}


def how_many_numbers(call):
    if call in CALLS_OF_NO_NUMBER:
        return 0
    return 2 if call in CALLS_OF_TWO_NUMBERS else 1


def answer(state, call, numbers):
    if call in CALLS_OF_NO_NUMBER:
        return CALLS_OF_NO_NUMBER[call](state)
    if call in CALLS_OF_TWO_NUMBERS:
        return CALLS_OF_TWO_NUMBERS[call](state, numbers[0], numbers[1])
    return CALLS_OF_ONE_NUMBER[call](state, numbers[0])
