"""How executions are queued, started, ended and abandoned, and how requests end with them."""

from keyedcalls.codes import CANCELLED
from keyedcalls.programs import execute
from keyedcalls.state import DROPPED, Execution, FINISHED, NO_KEY, QUEUED, RUNNING
from keyedcalls.state import has_free_slot, in_state, open_requests, waiting_requests

SMALLEST_DEADLINE = 1
GREATEST_NUMBER = 2


def end_request(server, request, status):
    request.status = status
    request.finished_at = server.now


def queue_execution(server, ask):
    program = server.methods[ask.method].program
    execution = Execution(len(server.executions), ask, program)
    server.executions.append(execution)
    return execution


def starting_order(server):
    """The queued executions in the order in which they would be started."""
    queued = in_state(server, QUEUED)
    if server.discipline == SMALLEST_DEADLINE:
        return sorted(queued, key=lambda execution: (earliest_deadline(server, execution), execution.number))
    if server.discipline == GREATEST_NUMBER:
        return list(reversed(queued))
    return queued


def earliest_deadline(server, execution):
    # A queued execution always has an open request: it is dropped with its last one.
    return min([request.deadline for request in waiting_requests(server, execution)])


def fill_slots(server):
    """Starts queued executions until none is queued or no slot is free."""
    order = starting_order(server)
    while len(order) > 0 and has_free_slot(server):
        execution = order[0]
        execution.state = RUNNING
        execution.started_at = server.now
        resume(server, execution)
        order = starting_order(server)


def resume(server, execution):
    """Lets a running execution execute; if that ends it, its requests end with it."""
    status = execute(server, execution)
    if status is None:
        return
    service_time = server.now - execution.started_at
    server.average = server.average + service_time - server.average // 8
    finish(server, execution, status)
    for request in waiting_requests(server, execution):
        end_request(server, request, status)


def finish(server, execution, status):
    execution.state = FINISHED
    execution.status = status
    execution.finished_at = server.now


def leave(server, request, status):
    """Ends an open request ahead of its execution, which is abandoned if no other request waits for it."""
    end_request(server, request, status)
    execution = server.executions[request.execution]
    if len(waiting_requests(server, execution)) == 0:
        abandon(server, execution)
    fill_slots(server)


def abandon(server, execution):
    if execution.state == QUEUED:
        drop(server, execution)
    elif execution.key == NO_KEY:
        finish(server, execution, CANCELLED)


def drop(server, execution):
    execution.state = DROPPED
    execution.finished_at = server.now


def end_grace(server):
    """Ends everything that is queued, running or open; nothing starts in the slots that become free."""
    server.grace_over = True
    for execution in in_state(server, QUEUED):
        drop(server, execution)
    for execution in in_state(server, RUNNING):
        finish(server, execution, CANCELLED)
    for request in open_requests(server):
        end_request(server, request, CANCELLED)
