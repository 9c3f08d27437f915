"""The desk: takes calls as one list of whole numbers and gives their answers as another."""

from smallcore.machine import Machine
from smallcore.reader import Reader

PUT = 1
TAKE = 2
SET = 3
GET = 4
RUN = 5
WHY = 6


class UnknownCall(ValueError):
    pass


def answer_put(machine, reader):
    place = reader.read_number()
    row = reader.read_row()
    return machine.put(place, row)


def answer_take(machine, reader):
    place = reader.read_number()
    n = reader.read_number()
    return machine.take(place, n)


def answer_set(machine, reader):
    which = reader.read_number()
    value = reader.read_number()
    return machine.set_value(which, value)


def answer_get(machine, reader):
    which = reader.read_number()
    return machine.get_value(which)


def answer_run(machine, reader):
    steps = reader.read_number()
    return machine.run(steps)


def answer_call(machine, reader):
    call = reader.read_number()
    if call == PUT:
        return answer_put(machine, reader)
    if call == TAKE:
        return answer_take(machine, reader)
    if call == SET:
        return answer_set(machine, reader)
    if call == GET:
        return answer_get(machine, reader)
    if call == RUN:
        return answer_run(machine, reader)
    if call == WHY:
        return machine.why()
    raise UnknownCall(f"no call has the number {call}")


def answers(calls):
    """Answer each call: how many numbers are answered, then these."""
    machine = Machine()
    reader = Reader(calls)
    answered = []
    while reader.has_more():
        answer = answer_call(machine, reader)
        answered.append(len(answer))
        answered.extend(answer)
    return answered
