"""Programs: which ones may be added, and what their instructions do."""

from keyedcalls.codes import EXHAUSTED, OK
from keyedcalls.state import Frame

WAIT = 0
EMIT = 1
EMIT_PAYLOAD = 2
ADD_PAYLOAD = 3
END = 4
CALL = 5

# The least and the greatest argument of each code.
ARGUMENT_BOUNDS = ((0, 10000), (0, 1000), (0, 0), (0, 3), (1, 16), (0, 5), (0, 3))

MOST_INSTRUCTIONS = 8
MOST_EXECUTED = 100
MOST_EMITTED = 40


def is_program(program, method_count):
    """Whether these numbers are a program that a method behind method_count others may have."""
    if len(program) % 2 == 1 or len(program) > 2 * MOST_INSTRUCTIONS:
        return False
    for position in range(0, len(program), 2):
        if not is_instruction(program[position], program[position + 1], method_count):
            return False
    return True


def is_instruction(code, argument, method_count):
    if code >= len(ARGUMENT_BOUNDS):
        return False
    # Only a method that already exists can be called, so programs can't call one another in a circle.
    if code == CALL and argument >= method_count:
        return False
    least, greatest = ARGUMENT_BOUNDS[code]
    return least <= argument <= greatest


def execute(server, execution):
    """Executes until the execution waits (gives None) or ends (gives its status)."""
    instruction = take_instruction(execution)
    while instruction is not None:
        if execution.executed == MOST_EXECUTED:
            return EXHAUSTED
        execution.executed += 1
        code, argument = instruction
        if code == WAIT:
            execution.wakes_at = server.now + argument
            return None
        if code == END:
            return argument
        if code == CALL:
            execution.frames.append(Frame(server.methods[argument].program))
        elif not emit(execution, values_to_emit(server, execution, code, argument)):
            return EXHAUSTED
        instruction = take_instruction(execution)
    return OK


def take_instruction(execution):
    """The next instruction, with its code and argument, None behind the last one."""
    frames = execution.frames
    while len(frames) > 0:
        frame = frames[-1]
        if frame.position < len(frame.program):
            frame.position += 2
            return (frame.program[frame.position - 2], frame.program[frame.position - 1])
        frames.pop()
    return None


def values_to_emit(server, execution, code, argument):
    if code == EMIT:
        return [argument]
    if code == EMIT_PAYLOAD:
        return execution.payload
    if code == ADD_PAYLOAD:
        server.registers[argument] += sum(execution.payload)
    # Code 6, the one left, emits a register's value just as code 3 does behind its addition.
    return [server.registers[argument]]


def emit(execution, numbers):
    """Emits all of the numbers, or none of them and gives False if there would be too many."""
    if len(execution.emitted) + len(numbers) > MOST_EMITTED:
        return False
    execution.emitted.extend(numbers)
    return True
