"""What all the calls of one line work on: the replicas, and what is under way between them."""

from oneleader.replica import Replica

MOST_UNDER_WAY = 64


class State:
    """under_way has messages by their numbers, in the order in which they were said or doubled."""

    def __init__(self):
        self.replicas = []
        self.under_way = {}
        self.next_number = 1

    def start(self, n):
        self.replicas = [Replica(i, n) for i in range(n)]
        self.under_way = {}
        self.next_number = 1

    def has_replica(self, i):
        return i < len(self.replicas)

    def has_room_for(self, more):
        return len(self.under_way) + more <= MOST_UNDER_WAY

    def how_many_others(self):
        return len(self.replicas) - 1

    def say(self, message):
        number = self.next_number
        self.under_way[number] = message
        self.next_number = number + 1
        return number

    def say_all(self, messages):
        for message in messages:
            self.say(message)
        return len(messages)
