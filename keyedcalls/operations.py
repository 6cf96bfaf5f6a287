"""The calls that do something with a server, each with its errors in their order; the others are in keyedcalls.views.

Each gives the numbers of its answer.
"""

from keyedcalls.arrival import arrive
from keyedcalls.codes import CANCELLED, NOT_OPEN, OUTSIDE, TOO_MANY, UNKNOWN
from keyedcalls.events import advance_to, happen, upcoming_event
from keyedcalls.executions import end_grace, fill_slots, leave
from keyedcalls.preview import arrive_on_trial
from keyedcalls.programs import is_program
from keyedcalls.state import Ask, Client, Method, QUEUED, RUNNING, Server, in_state
from keyedcalls.views import look, shown_status

MOST_LIMIT = 8
MOST_ROLES = 15
MOST_METHODS = 6
MOST_CLIENTS = 8
MOST_REQUESTS = 60
MOST_PAYLOAD = 8


def create(numbers):
    """The new server, None if an argument is outside its limits."""
    limit, queue_limit, discipline, shedding, lifetime = numbers
    if not is_limit(limit) or queue_limit > 16 or discipline > 2 or shedding > 1 or lifetime > 100000:
        return None
    return Server(limit, queue_limit, discipline, shedding, lifetime)


def is_limit(limit):
    return 1 <= limit <= MOST_LIMIT


def add_method(server, numbers):
    cost, roles = numbers[:2]
    program = numbers[2:]
    if not is_program(program, len(server.methods)) or cost > 100 or roles > MOST_ROLES:
        return [OUTSIDE]
    if len(server.methods) == MOST_METHODS:
        return [TOO_MANY]
    server.methods.append(Method(cost, roles, program))
    return [len(server.methods) - 1]


def add_client(server, numbers):
    token, roles, capacity, refill = numbers
    if token > 65535 or roles > MOST_ROLES or capacity > 1000 or refill > 1000:
        return [OUTSIDE]
    if len(server.clients) == MOST_CLIENTS:
        return [TOO_MANY]
    server.clients.append(Client(token, roles, capacity, refill, server.now))
    return [len(server.clients) - 1]


def send_request(server, numbers):
    ask = Ask(numbers)
    error = request_error(server, ask)
    if error is not None:
        return [error]
    request = arrive(server, ask)
    return [request.number, shown_status(request)]


def preview_request(server, numbers):
    ask = Ask(numbers)
    error = request_error(server, ask)
    if error is not None:
        return [error]
    return [shown_status(arrive_on_trial(server, ask))]


def request_error(server, ask):
    if ask.client >= len(server.clients):
        return UNKNOWN
    if ask.timeout < 1 or ask.timeout > 100000:
        return OUTSIDE
    if len(ask.payload) > MOST_PAYLOAD or max(ask.payload, default=0) > 1000:
        return OUTSIDE
    if len(server.requests) == MOST_REQUESTS:
        return TOO_MANY
    return None


def cancel(server, numbers):
    number = numbers[0]
    if number >= len(server.requests):
        return [UNKNOWN]
    request = server.requests[number]
    if request.status is not None:
        return [NOT_OPEN]
    leave(server, request, CANCELLED)
    return [0]


def advance(server, numbers):
    duration = numbers[0]
    if duration > 1000000:
        return [OUTSIDE]
    fired = advance_to(server, server.now + duration)
    return [fired, server.now]


def run(server, numbers):
    count = numbers[0]
    if count > 40:
        return [OUTSIDE]
    for turn in range(count):
        event = upcoming_event(server)
        if event is not None:
            happen(server, event)
    return [server.now]


def shutdown(server, numbers):
    grace = numbers[0]
    if grace > 100000:
        return [OUTSIDE]
    if server.grace_end is not None:
        return [NOT_OPEN]
    counts = [len(in_state(server, RUNNING)), len(in_state(server, QUEUED))]
    server.grace_end = server.now + grace
    if grace == 0:
        end_grace(server)
    return counts


def set_limit(server, numbers):
    limit = numbers[0]
    if not is_limit(limit):
        return [OUTSIDE]
    old_limit = server.limit
    server.limit = limit
    fill_slots(server)
    return [old_limit]


def set_roles(server, numbers):
    number, roles = numbers
    if number >= len(server.clients):
        return [UNKNOWN]
    if roles > MOST_ROLES:
        return [OUTSIDE]
    client = server.clients[number]
    old_roles = client.roles
    client.roles = roles
    return [old_roles]


OPERATIONS = {
    1: add_method,
    2: add_client,
    3: send_request,
    4: cancel,
    5: advance,
    7: run,
    16: shutdown,
    17: set_limit,
    18: set_roles,
    20: preview_request,
}


def perform(server, number, numbers):
    """The answer of the call with this number, which is not create, on an existing server."""
    if number in OPERATIONS:
        operation = OPERATIONS[number]
        return operation(server, numbers)
    return look(server, number, numbers)
