"""The calls: what each one does with the desk, and the numbers that it answers."""

from notchcards.kinds import checked
from notchcards.labels import states_not_borne, states_passed
from notchcards.refusals import Fault, Refusal
from notchcards.rows import farthest, lost_row, may_be
from notchcards.searches import best_field
from notchcards.tables import NO_END, NO_WAY, first_field, notch_count
from notchcards.texts import one_text, read_field


def rank_number(rank):
    """A rank as it is answered."""
    return -1 if rank == NO_END else rank


def counted(numbers):
    """A list as it is answered."""
    return [len(numbers)] + numbers


def value_number(value):
    """A value by itself as it is answered."""
    # That no value is NO_VALUE, -1, makes 0 of it here.
    return value + 1


def judged(labels, wrong):
    """What is answered of labels; wrong are the states where they aren't accepted."""
    return [1, labels[0]] if len(wrong) == 0 else [0, wrong[0]]


def call_clear(desk, given):
    """As at a line's beginning."""
    desk.lay(first_field())
    return [0]


def call_field(desk, given):
    """The field is the text's, and the card a new one."""
    field = given[0]
    desk.lay(field)
    return [field.holes, len(field.names), field.valued_count()]


def call_look(desk, given):
    """Whether the text has a fault, and its place."""
    try:
        read_field(given[0])
    except Fault as e:
        return [1, e.place]
    return [0]


def call_text(desk, given):
    """The bytes of the one text."""
    return [0] + one_text(desk.field)


def call_told(desk, given):
    """How many holes, values, changes let and states with a value there are."""
    field = desk.field
    return [field.holes, len(field.names), len(field.lets), field.valued_count()]


def call_value(desk, given):
    """The state's value, and the values that may be asked there."""
    state = given[0]
    return [value_number(desk.field.table[state])] + counted(desk.field.asked(state))


def call_ways(desk, given):
    """The ways from the state to the value."""
    return counted(desk.field.ways(given[0], given[1]))


def call_ranks(desk, given):
    """Each state's rank."""
    return counted([rank_number(rank) for rank in desk.field.ranks])


def call_go(desk, given):
    """The best way from the state to the value."""
    state = given[0]
    way = desk.field.best[state][given[1]]
    if way == NO_WAY:
        return [0]
    return [1, way, notch_count(way) - notch_count(state), rank_number(desk.field.ranks[way])]


def call_worst(desk, given):
    """The worst row from the state."""
    return counted(desk.field.worst_row(given[0]))


def call_carry(desk, given):
    """How far the row of changes is carried out from the state."""
    row = given[1]
    states = desk.field.carried(given[0], row)
    return [1 if len(states) == len(row) else 0] + counted(states)


def call_lower(desk, given):
    """Whether the labels are accepted from below."""
    labels = given[0]
    return judged(labels, states_not_borne(desk.field, labels))


def call_upper(desk, given):
    """Whether the labels are accepted from above."""
    labels = given[0]
    return judged(labels, states_passed(desk.field, labels))


def call_known(desk, given):
    """The first row that nobody carries from the state, even who knows it beforehand."""
    state = given[0]
    row = lost_row(desk.field, [state], desk.field.table[state], given[1])
    return [1] if len(row) == 0 else [0] + counted(row)


def call_far(desk, given):
    """How many of the row's changes somebody carries who knows it beforehand."""
    return [farthest(desk.field, given[0], given[1])]


def call_may(desk, given):
    """The states in which the row may leave the field."""
    return counted(may_be(desk.field, given[0], given[1])[-1])


def call_best(desk, given):
    """The greatest rank of a table of so many holes and values, and the first such table."""
    field = best_field(given[0], given[1])
    return [rank_number(field.ranks[0])] + [value_number(value) for value in field.table]


def call_new(desk, given):
    """The card is a new one."""
    desk.renew()
    return [0]


def call_change(desk, given):
    """Change the card to the value."""
    card = desk.card
    before = notch_count(card.state)
    card.change(given[0])
    return [card.state, notch_count(card.state) - before]


def call_notch(desk, given):
    """Notch the card's hole by hand."""
    card = desk.card
    card.notch(given[0])
    return [card.state]


def call_card(desk, given):
    """The card's state, its value, how many changes were made, and its rank."""
    state = desk.card.state
    return [state, value_number(desk.field.table[state]), desk.card.changes, rank_number(desk.field.ranks[state])]


def call_before(desk, given):
    """The states from which the best way to the state's value goes to it."""
    return counted(desk.field.before(given[0]))


DOERS = {
    0: call_clear,
    1: call_field,
    2: call_look,
    3: call_text,
    4: call_told,
    5: call_value,
    6: call_ways,
    7: call_ranks,
    8: call_go,
    9: call_worst,
    10: call_carry,
    11: call_lower,
    12: call_upper,
    13: call_known,
    14: call_far,
    15: call_may,
    16: call_best,
    17: call_new,
    18: call_change,
    19: call_notch,
    20: call_card,
    21: call_before,
}


def answer(desk, number, given):
    """What the call of that number answers; given are the pairs of a kind and a thing of it."""
    doer = DOERS[number]
    try:
        return doer(desk, [checked(desk.field, kind, thing) for kind, thing in given])
    except Refusal as e:
        return [e.number]
