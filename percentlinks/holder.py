"""The object that holds one link, and the answers to the calls on it."""

from percentlinks.calls import all_calls
from percentlinks.faults import fault_answer, first_fault
from percentlinks.following import followed
from percentlinks.link import WHOLE, empty_link, flat_choice, flat_form, is_good
from percentlinks.link import with_fragment, with_query, with_segments
from percentlinks.query import values_named, with_value, without_name
from percentlinks.reader import read_link
from percentlinks.refusals import first_refusal
from percentlinks.texts import answer_alone
from percentlinks.writer import one_form

NOT_THERE = -3
NOT_GOOD = -5
OUT_OF_BOUNDS = -6

HELD_LIMIT = 8192


class Holder:
    def __init__(self):
        self.link = empty_link()


def held_parts(holder):
    if holder.link.query is None:
        return []
    return holder.link.query


def hold_short(holder, link):
    if len(one_form(link)) > HELD_LIMIT:
        return [OUT_OF_BOUNDS]
    holder.link = link
    return [0]


def hold_good(holder, link):
    if not is_good(link):
        return [NOT_GOOD]
    return hold_short(holder, link)


def answer_load(holder, call):
    text = call.rows[0]
    fault = first_fault(text)
    if fault is not None:
        return fault_answer(fault)
    holder.link = read_link(text)
    return [0]


def answer_written(holder, call):
    return [0] + one_form(holder.link)


def answer_tree(holder, call):
    return [0] + flat_form(holder.link)


def answer_get(holder, call):
    found = values_named(held_parts(holder), call.rows[0])
    answer = [0, len(found)]
    for value in found:
        answer.extend(flat_choice(value))
    return answer


def answer_set(holder, call):
    parts = with_value(held_parts(holder), call.rows[0], call.rows[1])
    return hold_short(holder, with_query(holder.link, parts))


def answer_add(holder, call):
    parts = held_parts(holder) + [(call.rows[0], call.rows[1])]
    return hold_short(holder, with_query(holder.link, parts))


def answer_drop(holder, call):
    parts = held_parts(holder)
    left = without_name(parts, call.rows[0])
    # A query has one part at least, so none left means no query.
    query = left if len(left) > 0 else None
    holder.link = with_query(holder.link, query)
    return [0, len(parts) - len(left)]


def answer_change(holder, call):
    index = call.wholes[0]
    segments = list(holder.link.segments)
    if index < 0 or index >= len(segments):
        return [NOT_THERE]
    segments[index] = call.rows[0]
    return hold_good(holder, with_segments(holder.link, segments))


def answer_push(holder, call):
    segments = holder.link.segments + [call.rows[0]]
    return hold_good(holder, with_segments(holder.link, segments))


def answer_pop(holder, call):
    segments = holder.link.segments
    fewest = 0 if holder.link.head == WHOLE else 1
    if len(segments) <= fewest:
        return [NOT_THERE]
    holder.link = with_segments(holder.link, segments[:-1])
    return [0] + segments[-1]


def answer_cutquery(holder, call):
    holder.link = with_query(holder.link, None)
    return [0]


def answer_fragment(holder, call):
    there = call.wholes[0]
    if there == 0:
        return hold_short(holder, with_fragment(holder.link, None))
    if there == 1:
        return hold_short(holder, with_fragment(holder.link, call.rows[0]))
    return [NOT_THERE]


def answer_follow(holder, call):
    text = call.rows[0]
    fault = first_fault(text)
    if fault is not None:
        return fault_answer(fault)
    return hold_short(holder, followed(read_link(text), holder.link))


# By the number of the call; the others need no held link.
ANSWERERS = {
    0: answer_load,
    1: answer_written,
    2: answer_tree,
    3: answer_get,
    4: answer_set,
    5: answer_add,
    6: answer_drop,
    7: answer_change,
    8: answer_push,
    9: answer_pop,
    10: answer_cutquery,
    11: answer_fragment,
    12: answer_follow,
}


def answer_call(holder, call):
    refusal = first_refusal(call)
    if refusal < 0:
        return [refusal]
    if call.number in ANSWERERS:
        answerer = ANSWERERS[call.number]
        return answerer(holder, call)
    return answer_alone(call)


def answers(calls):
    """The answers to the calls on a new object, each one with its length before it."""
    holder = Holder()
    told = []
    for call in all_calls(calls):
        answer = answer_call(holder, call)
        told.append(len(answer))
        told.extend(answer)
    return told
