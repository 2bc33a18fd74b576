"""The calls that don't keep to one box: send goes from one to another, judge and plain need none."""

from sealedbox.box import box_fault, has_room, put_seal
from sealedbox.circuits import MOST_WIRES, circuit_fault, circuit_of, run_open
from sealedbox.refusals import NO_ROOM, NO_SEAL, WRONG_LENGTH, WRONG_NUMBER, refused, refused_at


def answer_send(boxes, numbers, rows):
    for place in (numbers[0], numbers[2]):
        fault = box_fault(boxes, place)
        if fault is not None:
            return refused(fault)
    return put_sent(boxes[numbers[0]], numbers[1], boxes[numbers[2]])


def put_sent(sender, h, receiver):
    seal = sender.seals.get(h)
    if seal is None:
        return refused(NO_SEAL)
    if sender.part.form.numbers != receiver.part.form.numbers:
        return refused(WRONG_LENGTH)
    if not has_room(receiver, 1):
        return refused(NO_ROOM)
    return [0, put_seal(receiver, seal)]


def answer_judge(boxes, numbers, rows):
    incoming = numbers[0]
    octets = rows[0]
    if incoming > MOST_WIRES:
        return refused(WRONG_NUMBER)
    fault = circuit_fault(octets, incoming)
    if fault is not None:
        return refused_at(fault)
    circuit = circuit_of(octets)
    return [0, len(circuit.gates), len(circuit.outs)]


def answer_plain(boxes, numbers, rows):
    bits = rows[0]
    octets = rows[1]
    if len(bits) > MOST_WIRES or not all([bit <= 1 for bit in bits]):
        return refused(WRONG_NUMBER)
    fault = circuit_fault(octets, len(bits))
    if fault is not None:
        return refused_at(fault)
    return [0] + run_open(circuit_of(octets), bits)


HANDLERS = {
    17: answer_send,
    29: answer_judge,
    30: answer_plain,
}


def is_loose_call(kind):
    return kind in HANDLERS


def answer_loose_call(kind, boxes, numbers, rows):
    return HANDLERS[kind](boxes, numbers, rows)
