"""The events that come with the time: which one is next, and what it does."""

from keyedcalls.codes import DEADLINE_EXCEEDED
from keyedcalls.executions import end_grace, fill_slots, leave, resume
from keyedcalls.state import RUNNING, in_state, open_requests

WAIT_ENDS = 0
DEADLINE_COMES = 1
GRACE_ENDS = 2


def upcoming_event(server):
    """The time, the kind and the number of the next event, None if there is none."""
    events = [(execution.wakes_at, WAIT_ENDS, execution.number) for execution in in_state(server, RUNNING)]
    events.extend([(request.deadline, DEADLINE_COMES, request.number) for request in open_requests(server)])
    if server.grace_end is not None and not server.grace_over:
        events.append((server.grace_end, GRACE_ENDS, 0))
    return min(events, default=None)


def happen(server, event):
    moment, kind, number = event
    server.now = max(server.now, moment)
    if kind == WAIT_ENDS:
        resume(server, server.executions[number])
        fill_slots(server)
    elif kind == DEADLINE_COMES:
        leave(server, server.requests[number], DEADLINE_EXCEEDED)
    else:
        end_grace(server)


def advance_to(server, moment):
    """Lets all events up to this time happen, sets the clock to it, and gives how many events there were."""
    fired = 0
    event = upcoming_event(server)
    while event is not None and event[0] <= moment:
        happen(server, event)
        fired += 1
        event = upcoming_event(server)
    server.now = moment
    return fired
