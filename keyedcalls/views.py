"""The calls that only look at a server and change nothing. Each gives the numbers of its answer."""

from keyedcalls.codes import DEADLINE_EXCEEDED, NOTHING_THERE, OK, REFUSED, UNKNOWN
from keyedcalls.events import upcoming_event
from keyedcalls.executions import starting_order
from keyedcalls.state import FINISHED, QUEUED, REGISTER_COUNT, RUNNING
from keyedcalls.state import estimated_wait, in_state, present_quota, shared_execution, waiting_requests


def next_event(server, numbers):
    event = upcoming_event(server)
    if event is None:
        return [NOTHING_THERE]
    return list(event)


def request_info(server, numbers):
    number = numbers[0]
    if number >= len(server.requests):
        return [UNKNOWN]
    request = server.requests[number]
    execution = 0 if request.execution is None else request.execution + 1
    return [
        shown_status(request), request.client, request.arrived_at, request.deadline,
        execution, request.joined, request.finished_at, request.retry_delay,
    ]


def shown_status(request):
    return 0 if request.status is None else request.status + 1


def response(server, numbers):
    number = numbers[0]
    if number >= len(server.requests):
        return [UNKNOWN]
    request = server.requests[number]
    if request.status != OK:
        return [NOTHING_THERE]
    emitted = server.executions[request.execution].emitted
    return [len(emitted)] + emitted


def execution_info(server, numbers):
    number = numbers[0]
    if number >= len(server.executions):
        return [UNKNOWN]
    execution = server.executions[number]
    return [
        execution.client, execution.key, execution.method, execution.state, state_value(execution),
        execution.started_at, execution.finished_at, execution.executed,
        len(waiting_requests(server, execution)), len(execution.emitted),
    ]


def state_value(execution):
    if execution.state == RUNNING:
        return execution.wakes_at
    if execution.state == FINISHED:
        return execution.status
    return 0


def list_queue(server, numbers):
    return counted_numbers(starting_order(server))


def list_running(server, numbers):
    return counted_numbers(in_state(server, RUNNING))


def counted_numbers(executions):
    return [len(executions)] + [execution.number for execution in executions]


def registers(server, numbers):
    return [REGISTER_COUNT] + server.registers


def quota(server, numbers):
    number = numbers[0]
    if number >= len(server.clients):
        return [UNKNOWN]
    client = server.clients[number]
    return [present_quota(client, server.now), client.capacity, client.refill]


def find_key(server, numbers):
    client, key = numbers
    if client >= len(server.clients):
        return [UNKNOWN]
    shared = shared_execution(server, client, key)
    if shared is None:
        return [NOTHING_THERE]
    return [shared.number, shared.state, state_value(shared)]


def estimate(server, numbers):
    return [estimated_wait(server), server.average]


def statistics(server, numbers):
    statuses = [request.status for request in server.requests]
    return [
        len(statuses), statuses.count(OK), statuses.count(REFUSED), statuses.count(DEADLINE_EXCEEDED),
        statuses.count(None), sum([request.joined for request in server.requests]), len(server.executions),
    ]


def status(server, numbers):
    shut_down = 0 if server.grace_end is None else 1
    return [
        server.now, len(in_state(server, RUNNING)), len(in_state(server, QUEUED)), shut_down,
        len(server.methods), len(server.clients),
    ]


VIEWS = {
    6: next_event,
    8: request_info,
    9: response,
    10: execution_info,
    11: list_queue,
    12: list_running,
    13: registers,
    14: quota,
    15: find_key,
    19: estimate,
    21: statistics,
    22: status,
}


def look(server, number, numbers):
    """The answer of the call with this number, one of those that change nothing."""
    view = VIEWS[number]
    return view(server, numbers)
