"""The way in: a flat list of calls, done one behind another, and the flat list of their answers."""

from keyedcalls.codes import NO_SERVER, OUTSIDE
from keyedcalls.operations import create, perform

CREATE = 0


def answers(calls):
    """The answers of the calls: for each one how many numbers are answered, then these."""
    server = None
    flat = []
    for number, numbers in split_calls(calls):
        if number == CREATE:
            created = create(numbers)
            answer = [OUTSIDE] if created is None else [0]
            # A refused create keeps the server that is there.
            server = server if created is None else created
        elif server is None:
            answer = [NO_SERVER]
        else:
            answer = perform(server, number, numbers)
        flat.append(len(answer))
        flat.extend(answer)
    return flat


def split_calls(calls):
    """Each call as its number and a new list of the numbers handed in with it."""
    parts = []
    position = 0
    while position < len(calls):
        start = position + 2
        end = start + calls[position + 1]
        parts.append((calls[position], calls[start:end]))
        # Behind the numbers stands how many lists the call has beside: always 0.
        position = end + 1
    return parts
