"""Three boxes: reads calls that stand one behind another, and answers them in order."""

from sealedbox.begin_calls import answer_begin_call, is_begin_call
from sealedbox.box import box_fault, no_boxes
from sealedbox.box_calls import answer_box_call
from sealedbox.refusals import refused

# Of each call: how many whole numbers it has, and how many rows stand behind them.
SHAPES = {
    1: (0, 1),
    2: (0, 1),
    3: (3, 0),
    4: (2, 1),
    5: (2, 0),
    6: (1, 0),
    7: (1, 1),
    8: (1, 0),
    9: (2, 0),
    10: (1, 0),
    11: (3, 0),
    12: (2, 0),
    13: (3, 0),
    14: (2, 0),
    15: (2, 0),
}


class Call:
    """A call's kind, its whole numbers, its rows, and the place behind it."""

    def __init__(self, kind, numbers, rows, end):
        self.kind = kind
        self.numbers = numbers
        self.rows = rows
        self.end = end


def answers(calls):
    boxes = no_boxes()
    told = []
    place = 0
    while place < len(calls):
        call = read_call(calls, place)
        answer = answer_call(boxes, call)
        told.append(len(answer))
        told.extend(answer)
        place = call.end
    return told


def read_call(calls, place):
    """The call that begins at the place."""
    shape = SHAPES[calls[place]]
    end = place + 1 + shape[0]
    numbers = calls[place + 1:end]
    rows = []
    for row in range(shape[1]):
        begin = end + 1
        end = begin + calls[end]
        rows.append(calls[begin:end])
    return Call(calls[place], numbers, rows, end)


def answer_call(boxes, call):
    if is_begin_call(call.kind):
        return answer_begin_call(call.kind, boxes, call.numbers, call.rows)
    k = call.numbers[0]
    fault = box_fault(boxes, k)
    if fault is not None:
        return refused(fault)
    return answer_box_call(call.kind, boxes[k], call.numbers)
