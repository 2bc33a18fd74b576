"""Circuits: gates one after the other, read from bytes, and run on open bits."""

from sealedbox.lowfirst import number_of, numbers_of

MOST_WIRES = 16
KIND_COUNT = 16
# Of a field: how many bytes it has, and what its number must be below. First how many gates, then how many outs.
HEAD = ((2, 65), (2, 17))
HEAD_BYTES = 4
GATE_BYTES = 5


class Gate:
    """A gate's kind and the numbers of its two wires."""

    def __init__(self, kind, first, second):
        self.kind = kind
        self.first = first
        self.second = second


class Circuit:
    """The gates in their order, and the outs' wires."""

    def __init__(self, gates, outs):
        self.gates = gates
        self.outs = outs


def circuit_fault(octets, incoming):
    """The place of the fault of a circuit's bytes, with so many wires coming in, or None if they are faultless."""
    fault = fields_fault(octets, HEAD)
    if fault is not None:
        return fault
    fields = list(HEAD) + body_fields(octets, incoming)
    fault = fields_fault(octets, fields)
    if fault is not None:
        return fault
    size = sum([field[0] for field in fields])
    if len(octets) > size:
        return size
    return None


def fields_fault(octets, fields):
    """The place of the first field that is missing or wrong, or None."""
    place = 0
    for size, limit in fields:
        if place + size > len(octets):
            return len(octets)
        if number_of(octets[place:place + size]) >= limit:
            return place
        place = place + size
    return None


def body_fields(octets, incoming):
    """The fields of the gates and outs that a faultless head tells."""
    counts = numbers_of(octets[:HEAD_BYTES], 2)
    fields = []
    for wires in range(incoming, incoming + counts[0]):
        fields.extend([(1, KIND_COUNT), (2, wires), (2, wires)])
    return fields + [(2, incoming + counts[0])] * counts[1]


def circuit_of(octets):
    """The circuit that faultless bytes say."""
    end = HEAD_BYTES + GATE_BYTES * number_of(octets[:2])
    gates = [gate_of(octets[place:place + GATE_BYTES]) for place in range(HEAD_BYTES, end, GATE_BYTES)]
    return Circuit(gates, numbers_of(octets[end:], 2))


def gate_of(octets):
    return Gate(octets[0], number_of(octets[1:3]), number_of(octets[3:]))


def outs_of(circuit, wires):
    """What the outs' wires carry."""
    return [wires[out] for out in circuit.outs]


def run_open(circuit, bits):
    """The outs' bits."""
    wires = list(bits)
    for gate in circuit.gates:
        wires.append(open_gate(gate.kind, wires[gate.first], wires[gate.second]))
    return outs_of(circuit, wires)


def open_gate(kind, first, second):
    return (kind >> (first + 2 * second)) % 2
