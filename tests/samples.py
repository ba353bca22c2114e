"""Rules and programs that several tests use, and objects that are never good."""

from heldwrites.machine import state_after


def rule_of(width=1, lines=2, room=2, sends="whole", eager=False, look="into", kinds=(), acting=()):
    return (width, lines, room, sends, eager, look, kinds, acting)


def chain_of(*ops, fences=None):
    """The program that does these operations one after the other, with fences by row."""
    fences = fences or {}
    last = len(ops) - 1
    return tuple(
        (op, fences.get(row, ()), () if row == last else (row + 1,)) for row, op in enumerate(ops)
    )


def write(place):
    return ("write", place)


def put(place):
    return ("put", place)


def read(place):
    return ("read", place)


PASS = ("pass",)


def do(row):
    return ("do", row)


def send(line, *offsets):
    return ("send", line, offsets)


def memory_after(rule, program, run):
    return state_after(rule, program, run)[2]


def held_after(rule, program, run):
    return state_after(rule, program, run)[3]


def acts_after(rule, program, run):
    return state_after(rule, program, run)[4]


def nested_tuple(depth):
    thing = ()
    for _ in range(depth):
        thing = (thing,)
    return thing


def nested_list(depth):
    thing = []
    for _ in range(depth):
        thing = [thing]
    return thing


class Strange:
    """Equal to everything, and not to be measured or iterated over."""

    __hash__ = None

    def __eq__(self, other):
        return True


# Objects that are neither a rule nor a program nor a step.
OTHER_THINGS = [
    None, True, False, 0, 1, -1, 10 ** 59, "", "do", "whole", "12345678", b"", b"do", b"12345678",
    (), [], {}, set(), frozenset(), {"do": 1}, range(3), len, object(), int, Strange(), (Strange(),) * 2,
    (Strange(),) * 3, (Strange(),) * 8, nested_tuple(100), nested_list(100), (None,), (None, None),
    (None,) * 8, [None] * 8, "x" * 10000, ("pass",), [1, 2], {1: 2},
]
