"""The calls that need no box, or that begin one."""

from sealedbox.bounds import greatest_sure, table_bound
from sealedbox.box import Box, box_fault, is_box_number
from sealedbox.forms import Form, is_form, key_luck_size, part_size, seal_size
from sealedbox.keymaking import make_part, make_secrets
from sealedbox.luck import Luck
from sealedbox.refusals import WRONG_LENGTH, WRONG_NUMBER, refused, refused_at
from sealedbox.workpart import MOST_BYTES, part_fault, part_of

MOST_LUCK = 100
LAST_LUCK = 20000


def answer_need(boxes, numbers, rows):
    if not is_form(rows[0]):
        return refused(WRONG_NUMBER)
    form = Form(rows[0])
    return [0, key_luck_size(form), part_size(form), seal_size(form)]


def answer_can(boxes, numbers, rows):
    if not is_form(rows[0]):
        return refused(WRONG_NUMBER)
    form = Form(rows[0])
    return [0, table_bound(form), form.step, greatest_sure(form)]


def answer_luck(boxes, numbers, rows):
    first = numbers[1]
    many = numbers[2]
    if many > MOST_LUCK or first > LAST_LUCK:
        return refused(WRONG_NUMBER)
    luck = Luck(numbers[0])
    for skipped in range(first):
        luck.next_byte()
    return [0] + luck.next_bytes(many)


def answer_key(boxes, numbers, rows):
    k = numbers[0]
    if not is_box_number(k) or not is_form(rows[0]):
        return refused(WRONG_NUMBER)
    form = Form(rows[0])
    luck = Luck(numbers[1])
    secrets = make_secrets(form, luck)
    boxes[k] = Box(make_part(form, secrets, luck), secrets)
    return [0]


def answer_hand(boxes, numbers, rows):
    k = numbers[0]
    j = numbers[1]
    if not is_box_number(k):
        return refused(WRONG_NUMBER)
    fault = box_fault(boxes, j)
    if fault is not None:
        return refused(fault)
    boxes[k] = Box(boxes[j].part, None)
    return [0]


def answer_take(boxes, numbers, rows):
    k = numbers[0]
    octets = rows[0]
    if not is_box_number(k):
        return refused(WRONG_NUMBER)
    if len(octets) > MOST_BYTES:
        return refused(WRONG_LENGTH)
    fault = part_fault(octets)
    if fault is not None:
        return refused_at(fault)
    boxes[k] = Box(part_of(octets), None)
    return [0]


HANDLERS = {
    1: answer_need,
    2: answer_can,
    3: answer_luck,
    4: answer_key,
    5: answer_hand,
    7: answer_take,
}


def is_begin_call(kind):
    return kind in HANDLERS


def answer_begin_call(kind, boxes, numbers, rows):
    return HANDLERS[kind](boxes, numbers, rows)
