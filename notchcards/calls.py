"""The calls: what each one does with the desk, and the numbers that it answers."""

from notchcards.kinds import checked
from notchcards.refusals import Fault, Refusal
from notchcards.tables import NO_END, NO_WAY, first_field, notch_count
from notchcards.texts import one_text, read_field


def rank_number(rank):
    """A rank as it is answered."""
    return -1 if rank == NO_END else rank


def counted(numbers):
    """A list as it is answered."""
    return [len(numbers)] + numbers


def call_clear(desk, given):
    """As at a line's beginning."""
    desk.lay(first_field())
    return [0]


def call_field(desk, given):
    """The field is the text's, and the card a new one."""
    field = given[0]
    desk.lay(field)
    return [field.holes, len(field.names), field.valued_count()]


def call_look(desk, given):
    """Whether the text has a fault, and its place."""
    try:
        read_field(given[0])
    except Fault as e:
        return [1, e.place]
    return [0]


def call_text(desk, given):
    """The bytes of the one text."""
    return [0] + one_text(desk.field)


def call_told(desk, given):
    """How many holes, values, changes let and states with a value there are."""
    field = desk.field
    return [field.holes, len(field.names), len(field.lets), field.valued_count()]


def call_value(desk, given):
    """The state's value, and the values that may be asked there."""
    state = given[0]
    # That no value is NO_VALUE, -1, makes 0 of it here.
    return [desk.field.table[state] + 1] + counted(desk.field.asked(state))


def call_ways(desk, given):
    """The ways from the state to the value."""
    return counted(desk.field.ways(given[0], given[1]))


def call_ranks(desk, given):
    """Each state's rank."""
    return counted([rank_number(rank) for rank in desk.field.ranks])


def call_go(desk, given):
    """The best way from the state to the value."""
    state = given[0]
    way = desk.field.best[state][given[1]]
    if way == NO_WAY:
        return [0]
    return [1, way, notch_count(way) - notch_count(state), rank_number(desk.field.ranks[way])]


def call_worst(desk, given):
    """The worst row from the state."""
    return counted(desk.field.worst_row(given[0]))


def call_carry(desk, given):
    """How far the row of changes is carried out from the state."""
    row = given[1]
    states = desk.field.carried(given[0], row)
    return [1 if len(states) == len(row) else 0] + counted(states)


DOERS = {
    0: call_clear,
    1: call_field,
    2: call_look,
    3: call_text,
    4: call_told,
    5: call_value,
    6: call_ways,
    7: call_ranks,
    8: call_go,
    9: call_worst,
    10: call_carry,
}


def answer(desk, number, given):
    """What the call of that number answers; given are the pairs of a kind and a thing of it."""
    doer = DOERS[number]
    try:
        return doer(desk, [checked(desk.field, kind, thing) for kind, thing in given])
    except Refusal as e:
        return [e.number]
