"""Three boxes: reads calls that stand one behind another, and answers them in order."""

from sealedbox.begin_calls import answer_begin_call, is_begin_call
from sealedbox.box import box_fault, no_boxes
from sealedbox.box_calls import answer_box_call
from sealedbox.loose_calls import answer_loose_call, is_loose_call
from sealedbox.refusals import refused
from sealedbox.seal_calls import answer_seal_call, is_seal_call
from sealedbox.use_calls import answer_use_call, is_use_call

# Of each call: how many whole numbers it has, and how many rows stand behind them.
SHAPES = {
    1: (0, 1),
    2: (0, 1),
    3: (3, 0),
    4: (2, 1),
    5: (2, 0),
    6: (1, 0),
    7: (1, 1),
    8: (1, 0),
    9: (2, 0),
    10: (1, 0),
    11: (3, 0),
    12: (2, 0),
    13: (3, 0),
    14: (2, 0),
    15: (2, 0),
    16: (2, 1),
    17: (3, 0),
    18: (2, 0),
    19: (1, 0),
    20: (3, 0),
    21: (3, 0),
    22: (3, 0),
    23: (3, 0),
    24: (1, 2),
    25: (2, 0),
    26: (2, 1),
    27: (4, 0),
    28: (1, 2),
    29: (1, 1),
    30: (0, 2),
}


class Call:
    """A call's kind, its whole numbers, its rows, and the place behind it."""

    def __init__(self, kind, numbers, rows, end):
        self.kind = kind
        self.numbers = numbers
        self.rows = rows
        self.end = end


def answers(calls):
    boxes = no_boxes()
    told = []
    place = 0
    while place < len(calls):
        call = read_call(calls, place)
        answer = answer_call(boxes, call)
        told.append(len(answer))
        told.extend(answer)
        place = call.end
    return told


def read_call(calls, place):
    """The call that begins at the place."""
    shape = SHAPES[calls[place]]
    end = place + 1 + shape[0]
    numbers = calls[place + 1:end]
    rows = []
    for row in range(shape[1]):
        begin = end + 1
        end = begin + calls[end]
        rows.append(calls[begin:end])
    return Call(calls[place], numbers, rows, end)


def answer_call(boxes, call):
    if is_begin_call(call.kind):
        return answer_begin_call(call.kind, boxes, call.numbers, call.rows)
    if is_loose_call(call.kind):
        return answer_loose_call(call.kind, boxes, call.numbers, call.rows)
    k = call.numbers[0]
    fault = box_fault(boxes, k)
    if fault is not None:
        return refused(fault)
    return answer_on_box(boxes[k], call)


def answer_on_box(box, call):
    if is_seal_call(call.kind):
        return answer_seal_call(call.kind, box, call.numbers, call.rows)
    if is_use_call(call.kind):
        return answer_use_call(call.kind, box, call.numbers, call.rows)
    return answer_box_call(call.kind, box, call.numbers, call.rows)
