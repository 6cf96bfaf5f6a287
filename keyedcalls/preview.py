"""A request on trial: what would become of it, found out without a trace on the server."""

from keyedcalls.arrival import arrive
from keyedcalls.state import Client, Server


def arrive_on_trial(server, ask):
    """The request as it would be behind its arrival."""
    return arrive(copy_for_trial(server), ask)


def copy_for_trial(server):
    """A server on which one request may arrive, while this one stays as it is.

    An arrival changes no execution and no request that is there ahead of it: where a slot is free, nothing is
    queued that it could start. So the lists of them are copied, but not what they hold.
    """
    twin = Server(server.limit, server.queue_limit, server.discipline, server.shedding, server.lifetime)
    twin.now = server.now
    twin.methods = list(server.methods)
    twin.clients = [copy_of_client(client) for client in server.clients]
    twin.executions = list(server.executions)
    twin.requests = list(server.requests)
    twin.registers = list(server.registers)
    twin.average = server.average
    twin.grace_end = server.grace_end
    twin.grace_over = server.grace_over
    return twin


def copy_of_client(client):
    twin = Client(client.token, client.roles, client.capacity, client.refill, client.quota_at)
    twin.quota = client.quota
    return twin
