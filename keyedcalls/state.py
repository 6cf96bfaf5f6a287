"""What a server holds, and what can be asked of it without changing it."""

QUEUED = 0
RUNNING = 1
FINISHED = 2
DROPPED = 3

REGISTER_COUNT = 4
NO_KEY = 0


class Server:
    """The settings, the clock and everything that has been added or has arrived."""

    def __init__(self, limit, queue_limit, discipline, shedding, lifetime):
        self.limit = limit
        self.queue_limit = queue_limit
        self.discipline = discipline
        self.shedding = shedding
        self.lifetime = lifetime
        self.now = 0
        self.methods = []
        self.clients = []
        self.executions = []
        self.requests = []
        self.registers = [0] * REGISTER_COUNT
        self.average = 0
        # The end of the grace period is known from shutdown on; it is over once it has ended.
        self.grace_end = None
        self.grace_over = False


class Method:
    """What a method costs, asks for and does."""

    def __init__(self, cost, roles, program):
        self.cost = cost
        self.roles = roles
        self.program = program


class Client:
    """A client; its quota is the one it had at the time quota_at, in thousandths."""

    def __init__(self, token, roles, capacity, refill, now):
        self.token = token
        self.roles = roles
        self.capacity = capacity
        self.refill = refill
        self.quota = capacity * 1000
        self.quota_at = now


class Frame:
    """How far the program of one method, called or first, has been executed."""

    def __init__(self, program):
        self.program = program
        self.position = 0


class Execution:
    """One execution of a method; status counts once it is finished, wakes_at while it is running."""

    def __init__(self, number, ask, program):
        self.number = number
        self.client = ask.client
        self.key = ask.key
        self.method = ask.method
        self.payload = ask.payload
        self.state = QUEUED
        self.status = 0
        self.wakes_at = 0
        self.started_at = 0
        self.finished_at = 0
        self.executed = 0
        self.emitted = []
        self.frames = [Frame(program)]


class Request:
    """One request; status is None while it is open, execution is None if it has none."""

    def __init__(self, number, client, arrived_at, deadline):
        self.number = number
        self.client = client
        self.arrived_at = arrived_at
        self.deadline = deadline
        self.execution = None
        self.joined = 0
        self.status = None
        self.finished_at = 0
        self.retry_delay = 0


class Ask:
    """What a client asks for with a request, from the numbers of the call."""

    def __init__(self, numbers):
        self.client = numbers[0]
        self.token = numbers[1]
        self.method = numbers[2]
        self.timeout = numbers[3]
        self.key = numbers[4]
        self.payload = numbers[5:]


def in_state(server, state):
    """The executions in this state, in increasing order."""
    return [execution for execution in server.executions if execution.state == state]


def has_free_slot(server):
    return len(in_state(server, RUNNING)) < server.limit


def open_requests(server):
    return [request for request in server.requests if request.status is None]


def waiting_requests(server, execution):
    """The open requests that wait for this execution."""
    return [request for request in open_requests(server) if request.execution == execution.number]


def present_quota(client, now):
    return min(client.capacity * 1000, client.quota + client.refill * (now - client.quota_at))


def estimated_wait(server):
    if has_free_slot(server):
        return 0
    queued = len(in_state(server, QUEUED))
    return (queued + 1) * (server.average // 8) // server.limit


def shared_execution(server, client, key):
    """The execution that a request of this client with this key would join, None if there is none."""
    if key == NO_KEY:
        return None
    shared = None
    for execution in server.executions:
        if execution.client == client and execution.key == key and can_be_joined(server, execution):
            shared = execution
    return shared


def can_be_joined(server, execution):
    if execution.state == FINISHED:
        return server.now < execution.finished_at + server.lifetime
    return execution.state != DROPPED
