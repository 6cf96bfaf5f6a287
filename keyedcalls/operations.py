"""The calls on a server, each with its errors in their order. Each gives the numbers of its answer."""

from keyedcalls.arrival import arrive
from keyedcalls.codes import CANCELLED, NOTHING_THERE, NOT_OPEN, OK, OUTSIDE, TOO_MANY, UNKNOWN
from keyedcalls.events import advance_to, happen, upcoming_event
from keyedcalls.executions import leave, starting_order
from keyedcalls.programs import is_program
from keyedcalls.state import Ask, Client, FINISHED, Method, RUNNING, Server, waiting_requests

MOST_METHODS = 6
MOST_CLIENTS = 8
MOST_REQUESTS = 60
MOST_PAYLOAD = 8


def create(numbers):
    """The new server, None if an argument is outside its limits."""
    limit, queue_limit, discipline, shedding, lifetime = numbers
    if limit < 1 or limit > 8 or queue_limit > 16 or discipline > 2 or shedding > 1 or lifetime > 100000:
        return None
    return Server(limit, queue_limit, discipline, shedding, lifetime)


def add_method(server, numbers):
    cost, roles = numbers[:2]
    program = numbers[2:]
    if not is_program(program, len(server.methods)) or cost > 100 or roles > 15:
        return [OUTSIDE]
    if len(server.methods) == MOST_METHODS:
        return [TOO_MANY]
    server.methods.append(Method(cost, roles, program))
    return [len(server.methods) - 1]


def add_client(server, numbers):
    token, roles, capacity, refill = numbers
    if token > 65535 or roles > 15 or capacity > 1000 or refill > 1000:
        return [OUTSIDE]
    if len(server.clients) == MOST_CLIENTS:
        return [TOO_MANY]
    server.clients.append(Client(token, roles, capacity, refill, server.now))
    return [len(server.clients) - 1]


def send_request(server, numbers):
    ask = Ask(numbers)
    error = request_error(server, ask)
    if error is not None:
        return [error]
    request = arrive(server, ask)
    return [request.number, shown_status(request)]


def request_error(server, ask):
    if ask.client >= len(server.clients):
        return UNKNOWN
    if ask.timeout < 1 or ask.timeout > 100000:
        return OUTSIDE
    if len(ask.payload) > MOST_PAYLOAD or max(ask.payload, default=0) > 1000:
        return OUTSIDE
    if len(server.requests) == MOST_REQUESTS:
        return TOO_MANY
    return None


def shown_status(request):
    return 0 if request.status is None else request.status + 1


def cancel(server, numbers):
    number = numbers[0]
    if number >= len(server.requests):
        return [UNKNOWN]
    request = server.requests[number]
    if request.status is not None:
        return [NOT_OPEN]
    leave(server, request, CANCELLED)
    return [0]


def advance(server, numbers):
    duration = numbers[0]
    if duration > 1000000:
        return [OUTSIDE]
    fired = advance_to(server, server.now + duration)
    return [fired, server.now]


def next_event(server, numbers):
    event = upcoming_event(server)
    if event is None:
        return [NOTHING_THERE]
    return list(event)


def run(server, numbers):
    count = numbers[0]
    if count > 40:
        return [OUTSIDE]
    for turn in range(count):
        event = upcoming_event(server)
        if event is not None:
            happen(server, event)
    return [server.now]


def request_info(server, numbers):
    number = numbers[0]
    if number >= len(server.requests):
        return [UNKNOWN]
    request = server.requests[number]
    execution = 0 if request.execution is None else request.execution + 1
    return [
        shown_status(request), request.client, request.arrived_at, request.deadline,
        execution, request.joined, request.finished_at, request.retry_delay,
    ]


def response(server, numbers):
    number = numbers[0]
    if number >= len(server.requests):
        return [UNKNOWN]
    request = server.requests[number]
    if request.status != OK:
        return [NOTHING_THERE]
    emitted = server.executions[request.execution].emitted
    return [len(emitted)] + emitted


def execution_info(server, numbers):
    number = numbers[0]
    if number >= len(server.executions):
        return [UNKNOWN]
    execution = server.executions[number]
    return [
        execution.client, execution.key, execution.method, execution.state, state_value(execution),
        execution.started_at, execution.finished_at, execution.executed,
        len(waiting_requests(server, execution)), len(execution.emitted),
    ]


def state_value(execution):
    if execution.state == RUNNING:
        return execution.wakes_at
    if execution.state == FINISHED:
        return execution.status
    return 0


def list_queue(server, numbers):
    order = starting_order(server)
    return [len(order)] + [execution.number for execution in order]


OPERATIONS = {
    1: add_method,
    2: add_client,
    3: send_request,
    4: cancel,
    5: advance,
    6: next_event,
    7: run,
    8: request_info,
    9: response,
    10: execution_info,
    11: list_queue,
}


def perform(server, number, numbers):
    """The answer of the call with this number, which is not create, on an existing server."""
    operation = OPERATIONS[number]
    return operation(server, numbers)
