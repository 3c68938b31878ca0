"""The calls that ask about what is handed in with them, whatever link is held."""

from percentlinks.data import data_of, length_with_data, link_with_data, with_data, written_data, written_datum
from percentlinks.faults import IN_FRAGMENT, IN_NAME, IN_SEGMENT, IN_VALUE
from percentlinks.faults import State, fault_answer, fault_on_the_way, first_fault, state_numbers, step
from percentlinks.link import flat_form
from percentlinks.reader import read_link
from percentlinks.signs import FIRST_MARK, is_mark
from percentlinks.writer import one_form

NOT_WHOLE = -4
PUT_TOO_LONG = -7

PUT_LIMIT = 65536


def answer_of(text, teller):
    """The text's fault, or 0 and what the teller tells of a text without one."""
    fault = first_fault(text)
    if fault is not None:
        return fault_answer(fault)
    return [0] + teller(text)


def tree_of(text):
    return flat_form(read_link(text))


def form_of(text):
    return one_form(read_link(text))


def marks_of(text):
    # The modes in which a mark can stand, in the order in which they are counted.
    wheres = (IN_SEGMENT, IN_NAME, IN_VALUE, IN_FRAGMENT)
    state = State()
    told = []
    for sign in text:
        if is_mark(sign):
            told.extend([sign - FIRST_MARK, wheres.index(state.mode)])
        step(state, sign)
    return told


def answer_read(call):
    return answer_of(call.rows[0], tree_of)


def answer_write(call):
    return answer_of(call.rows[0], form_of)


def answer_marks(call):
    return answer_of(call.rows[0], marks_of)


def answer_state(call):
    state = State()
    fault = fault_on_the_way(state, call.rows[0])
    if fault is not None:
        return fault_answer(fault)
    return [0] + state_numbers(state)


def answer_meet(call):
    found = []
    for turn, text in enumerate(call.rows):
        state = State()
        fault = fault_on_the_way(state, text)
        if fault is not None:
            return [1, turn, fault[0], fault[1]]
        found.append(state_numbers(state))
    return [0, 1 if found[0] == found[1] else 0]


def answer_escape(call):
    return [0] + written_datum(call.rows[0])


def answer_with_data(call, teller):
    """What put and fill refuse alike; else 0 and what the teller tells of the text and the data."""
    text = call.rows[0]
    data = data_of(call.rows[1])
    if data is None:
        return [NOT_WHOLE]
    fault = first_fault(text)
    if fault is not None:
        return fault_answer(fault)
    if length_with_data(text, written_data(data)) > PUT_LIMIT:
        return [PUT_TOO_LONG]
    return [0] + teller(text, data)


def put_text(text, data):
    return with_data(text, written_data(data))


def filled_tree(text, data):
    return flat_form(link_with_data(read_link(text), data))


def answer_put(call):
    return answer_with_data(call, put_text)


def answer_fill(call):
    return answer_with_data(call, filled_tree)


# By the number of the call.
ALONE = {
    13: answer_read,
    14: answer_write,
    15: answer_marks,
    16: answer_state,
    17: answer_meet,
    18: answer_escape,
    19: answer_put,
    20: answer_fill,
}


def answer_alone(call):
    answerer = ALONE[call.number]
    return answerer(call)
