"""The arrival of a request: the rules that decide what happens to it, in their order."""

from keyedcalls.codes import EXHAUSTED, INVALID, PERMISSION_DENIED, REFUSED, UNAUTHENTICATED, UNIMPLEMENTED
from keyedcalls.executions import end_request, fill_slots, queue_execution
from keyedcalls.state import FINISHED, QUEUED, Request
from keyedcalls.state import estimated_wait, has_free_slot, in_state, present_quota, shared_execution


def arrive(server, ask):
    """Adds the request that is asked for, decides on it and gives it."""
    request = Request(len(server.requests), ask.client, server.now, server.now + ask.timeout)
    server.requests.append(request)
    status = status_of_stranger(server, ask)
    if status is not None:
        end_request(server, request, status)
        return request
    shared = shared_execution(server, ask.client, ask.key)
    if shared is None:
        admit(server, request, ask)
    else:
        join(server, request, ask, shared)
    return request


def status_of_stranger(server, ask):
    """The status of a request that points 1 to 4 keep out, None if they let it in."""
    client = server.clients[ask.client]
    if server.grace_end is not None:
        return REFUSED
    if client.token != ask.token:
        return UNAUTHENTICATED
    if ask.method >= len(server.methods):
        return UNIMPLEMENTED
    required = server.methods[ask.method].roles
    if client.roles & required != required:
        return PERMISSION_DENIED
    return None


def join(server, request, ask, shared):
    """Point 5: a request with the key of a shared execution."""
    if shared.method != ask.method or shared.payload != ask.payload:
        end_request(server, request, INVALID)
        return
    request.execution = shared.number
    request.joined = 1
    if shared.state == FINISHED:
        end_request(server, request, shared.status)


def admit(server, request, ask):
    """Points 6 to 9: a request that needs an execution of its own."""
    client = server.clients[ask.client]
    price = server.methods[ask.method].cost * 1000
    quota = present_quota(client, server.now)
    if quota < price:
        turn_away(server, request, EXHAUSTED, quota_delay(client, quota, price))
        return
    wait = estimated_wait(server)
    if is_full(server) or (server.shedding == 1 and ask.timeout <= wait):
        turn_away(server, request, REFUSED, wait)
        return
    client.quota = quota - price
    client.quota_at = server.now
    request.execution = queue_execution(server, ask).number
    fill_slots(server)


def turn_away(server, request, status, retry_delay):
    end_request(server, request, status)
    request.retry_delay = retry_delay


def quota_delay(client, quota, price):
    """The milliseconds until the quota suffices, 0 if it never will."""
    if client.refill == 0 or price > client.capacity * 1000:
        return 0
    return (price - quota + client.refill - 1) // client.refill


def is_full(server):
    return not has_free_slot(server) and len(in_state(server, QUEUED)) >= server.queue_limit
