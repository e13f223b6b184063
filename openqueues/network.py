"""The calls of one list, answered one behind another."""

from openqueues.changes import answer_change
from openqueues.flow_questions import answer_flow_question
from openqueues.limits import MOST_CLASSES, MOST_STATIONS, NO_INSTANCE, OUT_OF_RANGE
from openqueues.routing_questions import answer_routing_question
from openqueues.state import Network

CREATE = 0
LAST_CHANGE = 7
LAST_ROUTING_QUESTION = 12
STATE_PROBABILITY = 23

# How many whole numbers stand behind the number of a call, by this number.
# With the state probability this is the one that tells how many more there are.
SIZES = (2, 3, 3, 3, 5, 3, 2, 2, 4, 2, 0, 0, 2, 0, 0, 0, 0, 2, 2, 2, 0, 0, 2, 1, 0, 0)


# What the calls of one list speak of: there is no network until one is created.
class Instance:
    def __init__(self):
        self.network = None

    def create(self, given):
        station_count, class_count = given
        if station_count < 1 or station_count > MOST_STATIONS:
            return [OUT_OF_RANGE]
        if class_count < 1 or class_count > MOST_CLASSES:
            return [OUT_OF_RANGE]
        self.network = Network(station_count, class_count)
        return [0]

    def answer(self, number, given):
        if number == CREATE:
            return self.create(given)
        if self.network is None:
            return [NO_INSTANCE]
        if number <= LAST_CHANGE:
            return answer_change(self.network, number, given)
        if number <= LAST_ROUTING_QUESTION:
            return answer_routing_question(self.network, number, given)
        return answer_flow_question(self.network, number, given)


def end_of_call(calls, start):
    end = start + 1 + SIZES[calls[start]]
    if calls[start] == STATE_PROBABILITY:
        return end + calls[start + 1]
    return end


def answers(calls):
    instance = Instance()
    answered = []
    start = 0
    while start < len(calls):
        end = end_of_call(calls, start)
        answer = instance.answer(calls[start], calls[start + 1:end])
        answered.append(len(answer))
        answered.extend(answer)
        start = end
    return answered
