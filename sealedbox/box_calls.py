"""The calls on one box that is begun."""

from sealedbox.box import has_room, put_seal
from sealedbox.forms import is_sealable, part_size
from sealedbox.luck import Luck
from sealedbox.refusals import NO_ROOM, NO_SEAL, NO_SECRETS, TOO_MANY_BYTES, WRONG_NUMBER, refused
from sealedbox.seals import new_seal, off_by, opened, seal_bytes
from sealedbox.workpart import MOST_BYTES, part_bytes


def answer_give(box, numbers, rows):
    if part_size(box.part.form) > MOST_BYTES:
        return refused(TOO_MANY_BYTES)
    return [0] + part_bytes(box.part)


def answer_told(box, numbers, rows):
    secret = 0 if box.secrets is None else 1
    return [0, secret] + box.part.form.numbers


def answer_cap(box, numbers, rows):
    box.most = numbers[1]
    return [0]


def answer_uses(box, numbers, rows):
    return [0, box.uses]


def answer_seal(box, numbers, rows):
    number = numbers[1]
    form = box.part.form
    if box.secrets is None:
        return refused(NO_SECRETS)
    if not is_sealable(form, number):
        return refused(WRONG_NUMBER)
    if not has_room(box, 1):
        return refused(NO_ROOM)
    seal = new_seal(form, box.secrets.bits, number, Luck(numbers[2]))
    return [0, put_seal(box, seal)]


def answer_opened(box, numbers, rows):
    seal = box.seals.get(numbers[1])
    if box.secrets is None:
        return refused(NO_SECRETS)
    if seal is None:
        return refused(NO_SEAL)
    return [0, opened(box.part.form, box.secrets.bits, seal)]


def answer_off(box, numbers, rows):
    seal = box.seals.get(numbers[1])
    number = numbers[2]
    form = box.part.form
    if box.secrets is None:
        return refused(NO_SECRETS)
    if not is_sealable(form, number):
        return refused(WRONG_NUMBER)
    if seal is None:
        return refused(NO_SEAL)
    return [0, off_by(form, box.secrets.bits, seal, number)]


def answer_bound(box, numbers, rows):
    seal = box.seals.get(numbers[1])
    if seal is None:
        return refused(NO_SEAL)
    return [0, seal.bound]


def answer_write(box, numbers, rows):
    seal = box.seals.get(numbers[1])
    if seal is None:
        return refused(NO_SEAL)
    return [0] + seal_bytes(seal)


HANDLERS = {
    6: answer_give,
    8: answer_told,
    9: answer_cap,
    10: answer_uses,
    11: answer_seal,
    12: answer_opened,
    13: answer_off,
    14: answer_bound,
    15: answer_write,
}


def answer_box_call(kind, box, numbers, rows):
    return HANDLERS[kind](box, numbers, rows)
