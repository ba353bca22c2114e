"""Long programs: words of operations, each done up to very many times, one after the other.

What can be seen of a write hangs on how long its cell can be held. The run that holds it longest sends, ahead of each
operation, all that can be sent without it: its line alone is open then. The times of a word are alike, so that what
has to wait for that line is found among the first operations of each word.
"""

from heldwrites.errors import BadIndex, BadLong
from heldwrites.moves import is_fenced, must_wait
from heldwrites.rules import EAGER, LOOK, PLACE_WORDS, SENDS, STAMPING_WORDS, WIDTH
from heldwrites.rules import check_rule, is_fenced_operation, is_integer_within, is_tuple_of, line_of

# A write, a put and a read that hang together stand in at most three times of a word, one behind the other.
TELLING_TIMES = 3


def is_piece(rule, thing):
    """Whether the object is a tuple of a word and how many times it is done."""
    if not is_tuple_of(thing, 2, 2):
        return False
    word, times = thing
    if not is_tuple_of(word, 1, 8) or not is_integer_within(times, 1, 10 ** 40):
        return False
    return all([is_fenced_operation(rule, entry) for entry in word])


def check_long(rule, long_program):
    """Raise BadRule or BadLong if one of the two is not as it should be."""
    check_rule(rule)
    if not is_tuple_of(long_program, 1, 8) or not all([is_piece(rule, piece) for piece in long_program]):
        raise BadLong("this is not a long program of the rule")


def size_of(long_program):
    """The number of operations."""
    return sum([len(word) * times for word, times in long_program])


def entry_numbered(long_program, number):
    """The tuple (op, fences) with this number, which is below the number of operations."""
    left = number
    for word, times in long_program:
        if left < len(word) * times:
            return word[left % len(word)]
        left = left - len(word) * times
    return None


def check_index(long_program, index, least, words):
    """Raise BadIndex if the object is not the number, from least on, of an operation with one of these words."""
    if not is_integer_within(index, least, size_of(long_program) - 1):
        raise BadIndex("this is not the number of such an operation")
    if entry_numbered(long_program, index)[0][0] not in words:
        raise BadIndex("the operation with this number is another one")


def long_length(rule, long_program):
    """The number of operations; BadRule, BadLong."""
    check_long(rule, long_program)
    return size_of(long_program)


def long_operation(rule, long_program, index):
    """The tuple (op, fences) with the number; BadRule, BadLong, BadIndex."""
    check_long(rule, long_program)
    check_index(long_program, index, 0, ("pass", *PLACE_WORDS))
    return entry_numbered(long_program, index)


def firsts_behind(long_program, number):
    """Pairs (number, (op, fences)), ascending: behind this number the first operations of each word, each one once."""
    found = []
    start = 0
    for word, times in long_program:
        end = start + len(word) * times
        first = max(start, number + 1)
        for later in range(first, min(first + len(word), end)):
            found.append((later, word[(later - start) % len(word)]))
        start = end
    return found


def first_waiting(rule, long_program, number):
    """The number of the first operation that cannot be done while the cell of the write is held.

    The number of operations if there is none.
    """
    place = entry_numbered(long_program, number)[0][1]
    line = line_of(rule, place)
    held = ((line, ()),)
    # By parts the other cells of the line can be sent alone, so that it need not stay full.
    stays_full = rule[EAGER] and (rule[SENDS] != "parts" or rule[WIDTH] == 1)
    marked = [place]
    if stays_full and rule[WIDTH] == 1:
        return number + 1
    for later, (op, fences) in firsts_behind(long_program, number):
        if is_fenced(rule, fences, held) or must_wait(rule, op, held):
            return later
        if op[0] == "write" and line_of(rule, op[1]) == line and op[1] not in marked:
            marked.append(op[1])
            if stays_full and len(marked) == rule[WIDTH]:
                return later + 1
    return size_of(long_program)


def first_overtaken(rule, long_program, number):
    """The number of the first operation that is done only when memory has the stamp of the write, or a later one.

    The number of operations if there is none.
    """
    op = entry_numbered(long_program, number)[0]
    waiting = first_waiting(rule, long_program, number)
    for later, (other, _) in firsts_behind(long_program, number):
        if other == ("put", op[1]):
            return min(waiting, later + 1)
    return waiting


def first_behind(rule, long_program, index):
    """The number of the first operation behind the write that no run does ahead of it, None if there is none.

    BadRule, BadLong, BadIndex.
    """
    check_long(rule, long_program)
    check_index(long_program, index, 0, ("write",))
    number = first_overtaken(rule, long_program, index)
    return number if number < size_of(long_program) else None


def long_ahead(rule, long_program, index, other):
    """Whether some run shows the later stamp in memory ahead of that of the write; BadRule, BadLong, BadIndex."""
    check_long(rule, long_program)
    check_index(long_program, index, 0, ("write",))
    check_index(long_program, other, index + 1, STAMPING_WORDS)
    op, later = entry_numbered(long_program, index)[0], entry_numbered(long_program, other)[0]
    if op[1] == later[1] or other >= first_overtaken(rule, long_program, index):
        return False
    # Of a later write in the same line, the cell has to be sent alone.
    return later[0] == "put" or line_of(rule, op[1]) != line_of(rule, later[1]) or rule[SENDS] == "parts"


def told_times(times):
    """How many times of a word tell all that so many times do."""
    return min(times, TELLING_TIMES)


def shortened(long_program):
    """The long program with each word done no more times than tell something."""
    return tuple([(word, told_times(times)) for word, times in long_program])


def numbers_kept(long_program):
    """The numbers that the operations of the shortened program have in the long one."""
    numbers = []
    start = 0
    for word, times in long_program:
        numbers.extend([start + more for more in range(len(word) * told_times(times))])
        start = start + len(word) * times
    return numbers


def last_at(ops, words, places):
    """The number of the last operation with one of the words at one of the places, None if there is none."""
    found = [number for number, op in enumerate(ops) if op[0] in words and op[1] in places]
    return found[-1] if found else None


def places_filling(rule, place):
    """The places a write to which leaves a stamp in the cell of this place."""
    if rule[SENDS] != "filled":
        return (place,)
    first = line_of(rule, place) * rule[WIDTH]
    return tuple(range(first, first + rule[WIDTH]))


def can_fall(rule, short, ops, number):
    """Whether some run does the put while a cell of its place holds an older stamp, which can be sent behind it."""
    write = last_at(ops[:number], ("write",), places_filling(rule, ops[number][1]))
    return write is not None and number < first_waiting(rule, short, write)


def can_tell_elder(rule, short, ops, number):
    """Whether to the read some run tells a stamp less than the last one of its place."""
    last = last_at(ops[:number], STAMPING_WORDS, (ops[number][1],))
    if last is None:
        return False
    if ops[last][0] == "put":
        return can_fall(rule, short, ops, last)
    return rule[LOOK] == "past" and number < first_waiting(rule, short, last)


def first_elder(rule, long_program):
    """The number of the first read that can be told an elder stamp, None if there is none; BadRule, BadLong."""
    check_long(rule, long_program)
    short = shortened(long_program)
    ops = [entry_numbered(short, number)[0] for number in range(size_of(short))]
    for number, op in enumerate(ops):
        if op[0] == "read" and can_tell_elder(rule, short, ops, number):
            return numbers_kept(long_program)[number]
    return None
