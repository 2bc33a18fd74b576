"""The calls on one box that are uses: tables, gates and circuits."""

from sealedbox.bounds import is_sure
from sealedbox.box import has_room, may_use, put_seal, put_seals, seals_at
from sealedbox.circuits import KIND_COUNT, MOST_WIRES, circuit_fault, circuit_of
from sealedbox.forms import is_sealable
from sealedbox.gates import WEIGHTS, gate_table, gates_are_sure, has_gates, run_sealed
from sealedbox.refusals import NO_ROOM, NO_SEAL, NO_USE_MORE, NOT_SURE, WRONG_LENGTH, WRONG_NUMBER, refused, refused_at
from sealedbox.seals import combined
from sealedbox.tables import through_table


def answer_table(box, numbers, rows):
    form = box.part.form
    table = rows[0]
    if len(table) != form.half:
        return refused(WRONG_LENGTH)
    if not all([is_sealable(form, number) for number in table]):
        return refused(WRONG_NUMBER)
    return put_through_table(box, [numbers[1]], [1], table)


def answer_gate(box, numbers, rows):
    form = box.part.form
    kind = numbers[1]
    if kind >= KIND_COUNT or not has_gates(form):
        return refused(WRONG_NUMBER)
    return put_through_table(box, numbers[2:], WEIGHTS, gate_table(form, kind))


def answer_circuit(box, numbers, rows):
    places = rows[0]
    octets = rows[1]
    if len(places) > MOST_WIRES or not has_gates(box.part.form):
        return refused(WRONG_NUMBER)
    fault = circuit_fault(octets, len(places))
    if fault is not None:
        return refused_at(fault)
    return put_outs(box, places, circuit_of(octets))


def put_through_table(box, places, factors, table):
    """Puts what comes out of the table, into which the seals times the factors go."""
    seals = seals_at(box, places)
    if seals is None:
        return refused(NO_SEAL)
    if not has_room(box, 1):
        return refused(NO_ROOM)
    if not may_use(box, 1):
        return refused(NO_USE_MORE)
    total = combined(seals, factors)
    if not is_sure(box.part.form, total.bound):
        return refused(NOT_SURE)
    box.uses = box.uses + 1
    return [0, put_seal(box, through_table(box.part, total, table))]


def put_outs(box, places, circuit):
    """Puts the circuit's outs, into which the seals at these places come."""
    seals = seals_at(box, places)
    if seals is None:
        return refused(NO_SEAL)
    if not has_room(box, len(circuit.outs)):
        return refused(NO_ROOM)
    if not may_use(box, len(circuit.gates)):
        return refused(NO_USE_MORE)
    if not gates_are_sure(box.part.form, circuit, [seal.bound for seal in seals]):
        return refused(NOT_SURE)
    box.uses = box.uses + len(circuit.gates)
    return [0] + put_seals(box, run_sealed(box.part, circuit, seals))


HANDLERS = {
    26: answer_table,
    27: answer_gate,
    28: answer_circuit,
}


def is_use_call(kind):
    return kind in HANDLERS


def answer_use_call(kind, box, numbers, rows):
    return HANDLERS[kind](box, numbers, rows)
