"""One box, and how a box is found among the three."""

from sealedbox.refusals import NOT_BEGUN, WRONG_NUMBER

BOX_COUNT = 3
SEAL_COUNT = 32


class Box:
    """A working part, the secrets or None, seals by their numbers, the uses, and the most uses or None."""

    def __init__(self, part, secrets):
        self.part = part
        self.secrets = secrets
        self.seals = {}
        self.uses = 0
        self.most = None


def no_boxes():
    """The three boxes, none of them begun."""
    return [None] * BOX_COUNT


def is_box_number(k):
    return k < BOX_COUNT


def box_fault(boxes, k):
    """Why box k can't be called on, or None if it can."""
    if not is_box_number(k):
        return WRONG_NUMBER
    if boxes[k] is None:
        return NOT_BEGUN
    return None


def has_room(box, many):
    """Whether so many seals more find room."""
    return len(box.seals) + many <= SEAL_COUNT


def may_use(box, many):
    """Whether there may be so many uses more; none is always allowed, even where the cap is below the uses."""
    return many == 0 or box.most is None or box.uses + many <= box.most


def seals_at(box, places):
    """The seals at these numbers, or None if one isn't there."""
    if not all([place in box.seals for place in places]):
        return None
    return [box.seals[place] for place in places]


def put_seal(box, seal):
    """Puts the seal at the least free number and tells it; there must be room."""
    number = 0
    while number in box.seals:
        number = number + 1
    box.seals[number] = seal
    return number


def put_seals(box, seals):
    """Puts the seals one after the other and tells their numbers; there must be room."""
    return [put_seal(box, seal) for seal in seals]
