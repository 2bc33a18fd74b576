"""Gates on seals, and circuits of them."""

from sealedbox.bounds import is_sure, made_bound
from sealedbox.circuits import outs_of
from sealedbox.seals import combined, combined_bound
from sealedbox.tables import through_table

# The second wire counts twice, so that the sum tells both bits.
WEIGHTS = (1, 2)


def has_gates(form):
    """Whether the sum of a gate's wires, 3 at most, is always below p."""
    return form.half > 3


def gate_table(form, kind):
    return [(kind >> place) % 2 if place < 4 else 0 for place in range(form.half)]


def gates_are_sure(form, circuit, bounds):
    """Whether each gate's sum is sure; bounds are those of what comes in."""
    wires = list(bounds)
    for gate in circuit.gates:
        if not is_sure(form, combined_bound([wires[gate.first], wires[gate.second]], WEIGHTS)):
            return False
        wires.append(made_bound(form))
    return True


def run_sealed(part, circuit, seals):
    """The outs' seals."""
    wires = list(seals)
    for gate in circuit.gates:
        total = combined([wires[gate.first], wires[gate.second]], WEIGHTS)
        wires.append(through_table(part, total, gate_table(part.form, gate.kind)))
    return outs_of(circuit, wires)
