"""What the load of one station with its servers leads to, where its utilization is less than 1."""

from openqueues.ratio import lowest_terms, over, plus, power, rest_to_one, times


# The number probabilities of 0 to as many customers as there are servers are proportional to these.
# Each step multiplies those before by the same, so that all of them are whole.
def whole_weights(load, servers):
    load_top, load_bottom = load
    weights = [1]
    for busy in range(1, servers + 1):
        last_weight = weights[-1] * load_top
        weights = [weight * load_bottom * busy for weight in weights]
        weights.append(last_weight)
    return weights


# The document's B of all servers: its steps keep it at the last of these weights over their sum.
def blocked_part(load, servers):
    weights = whole_weights(load, servers)
    return lowest_terms(weights[-1], sum(weights))


# The document's C.
def waiting_part(load, servers):
    blocked = blocked_part(load, servers)
    utilization = times(load, (1, servers))
    return over(blocked, rest_to_one(times(utilization, rest_to_one(blocked))))


def queue_length(load, servers):
    utilization = times(load, (1, servers))
    return times(waiting_part(load, servers), over(utilization, rest_to_one(utilization)))


# Behind the last of the weights each is the one before times the utilization, without an end.
def probability_of_number(load, servers, customers):
    utilization = times(load, (1, servers))
    weights = whole_weights(load, servers)
    last_weight = (weights[-1], 1)
    beyond = times(last_weight, over(utilization, rest_to_one(utilization)))
    all_weights = plus((sum(weights), 1), beyond)
    if customers <= servers:
        return over((weights[customers], 1), all_weights)
    return over(times(last_weight, power(utilization, customers - servers)), all_weights)
