"""The modes in which a text is looked at, and its first fault."""

from percentlinks.signs import AMPERSAND, COLON, DOT, EQUALS, HASH, HTTPS, PATH_ENDS, PERCENT, QUESTION, SLASH
from percentlinks.signs import is_digit, is_hex_digit, is_label_sign, is_mark, is_text_sign

NO_FAULT = 0
STRAY_BYTE = 1
BAD_HOST = 2
BAD_DOTS = 3
BAD_FIRST_SEGMENT = 4
STRAY_MARK = 5
CUT_SHORT = 6

IN_SEGMENT = 0
BEHIND_SCHEME = 1
BEHIND_FIRST_SLASH = 2
IN_HOST = 3
IN_PORT = 4
IN_NAME = 6
IN_VALUE = 7
IN_FRAGMENT = 8
BEHIND_PERCENT = 9
BEHIND_HEX_DIGIT = 10

NO_SCHEME = 9
OTHER_SIGNS = 3
LABEL_LIMIT = 63
PORT_LIMIT = 65535


class State:
    """What has to be known of the signs so far to judge the next one."""

    def __init__(self):
        self.mode = IN_SEGMENT
        # The mode to go back to when a percent form is whole.
        self.before = 0
        # 1 in the first segment of a relative or rooted link.
        self.first = 1
        # How many signs of http or https there are and nothing else, or NO_SCHEME.
        self.scheme = 0
        # The segment's written signs: 0 none, 1 one dot, 2 two dots, OTHER_SIGNS.
        self.dots = 0
        self.label = 0
        self.port = 0


def enter(state, mode):
    """Go to a mode with nothing known but the mode itself."""
    state.mode = mode
    state.before = 0
    state.first = 0
    state.scheme = 0
    state.dots = 0
    state.label = 0
    state.port = 0


def enter_segment(state, first):
    enter(state, IN_SEGMENT)
    state.first = first
    state.scheme = NO_SCHEME


def enter_percent(state):
    state.before = state.mode
    if state.mode == IN_SEGMENT:
        state.scheme = NO_SCHEME
    state.mode = BEHIND_PERCENT


def enter_behind_path(state, sign):
    """Follow the path end ? or #."""
    if sign == QUESTION:
        enter(state, IN_NAME)
    else:
        enter(state, IN_FRAGMENT)


def enter_behind_host(state, sign):
    if sign == SLASH:
        enter_segment(state, 0)
    else:
        enter_behind_path(state, sign)


def stray(sign):
    """The kind of fault of a sign that the mode doesn't name."""
    if is_mark(sign):
        return STRAY_MARK
    return STRAY_BYTE


def scheme_behind(scheme, sign):
    if scheme < len(HTTPS) and sign == HTTPS[scheme]:
        return scheme + 1
    return NO_SCHEME


def dots_behind(dots, sign):
    if is_mark(sign):
        return dots
    if sign == DOT and dots < 2:
        return dots + 1
    return OTHER_SIGNS


def is_dots_alone(dots):
    return dots == 1 or dots == 2


def end_segment(state, sign):
    if is_dots_alone(state.dots):
        return BAD_DOTS
    if sign != SLASH:
        enter_behind_path(state, sign)
    elif state.scheme == 0:
        # No sign stands before this one: it makes the link rooted.
        enter_segment(state, 1)
    elif state.first == 1 and state.dots == 0:
        return BAD_FIRST_SEGMENT
    else:
        enter_segment(state, 0)
    return NO_FAULT


def step_segment(state, sign):
    if is_text_sign(sign):
        state.scheme = scheme_behind(state.scheme, sign)
        state.dots = dots_behind(state.dots, sign)
        return NO_FAULT
    if sign == PERCENT:
        enter_percent(state)
        return NO_FAULT
    if sign in PATH_ENDS:
        return end_segment(state, sign)
    if sign == COLON and (state.scheme == 4 or state.scheme == 5):
        enter(state, BEHIND_SCHEME)
        return NO_FAULT
    return stray(sign)


def step_behind_scheme(state, sign):
    if sign == SLASH:
        enter(state, BEHIND_FIRST_SLASH)
        return NO_FAULT
    return stray(sign)


def step_behind_first_slash(state, sign):
    if sign == SLASH:
        enter(state, IN_HOST)
        return NO_FAULT
    return stray(sign)


def step_host(state, sign):
    if is_label_sign(sign):
        if state.label == LABEL_LIMIT:
            return BAD_HOST
        state.label += 1
    elif state.label == 0:
        return stray(sign)
    elif sign == DOT:
        enter(state, IN_HOST)
    elif sign == COLON:
        enter(state, IN_PORT)
    elif sign in PATH_ENDS:
        enter_behind_host(state, sign)
    else:
        return stray(sign)
    return NO_FAULT


def step_port(state, sign):
    if is_digit(sign):
        worth = state.port * 10 + sign - 48
        # Worth nothing means that the first digit is a 0.
        if worth == 0 or worth > PORT_LIMIT:
            return BAD_HOST
        state.port = worth
        return NO_FAULT
    if state.port > 0 and sign in PATH_ENDS:
        enter_behind_host(state, sign)
        return NO_FAULT
    return stray(sign)


def step_name(state, sign):
    if is_text_sign(sign):
        return NO_FAULT
    if sign == EQUALS:
        enter(state, IN_VALUE)
        return NO_FAULT
    return step_query_end(state, sign)


def step_value(state, sign):
    if is_text_sign(sign):
        return NO_FAULT
    return step_query_end(state, sign)


def step_query_end(state, sign):
    """What may stand in names and values alike, besides their plain signs."""
    if sign == AMPERSAND:
        enter(state, IN_NAME)
    elif sign == HASH:
        enter(state, IN_FRAGMENT)
    elif sign == PERCENT:
        enter_percent(state)
    else:
        return stray(sign)
    return NO_FAULT


def step_fragment(state, sign):
    if is_text_sign(sign):
        return NO_FAULT
    if sign == PERCENT:
        enter_percent(state)
        return NO_FAULT
    return stray(sign)


def step_behind_percent(state, sign):
    if is_hex_digit(sign):
        state.mode = BEHIND_HEX_DIGIT
        return NO_FAULT
    return stray(sign)


def step_behind_hex_digit(state, sign):
    if not is_hex_digit(sign):
        return stray(sign)
    state.mode = state.before
    state.before = 0
    if state.mode == IN_SEGMENT:
        state.dots = OTHER_SIGNS
    return NO_FAULT


# By the number of the mode.
STEPS = {
    0: step_segment,
    1: step_behind_scheme,
    2: step_behind_first_slash,
    3: step_host,
    4: step_port,
    6: step_name,
    7: step_value,
    8: step_fragment,
    9: step_behind_percent,
    10: step_behind_hex_digit,
}


def step(state, sign):
    """Take one more sign; the kind of its fault, or NO_FAULT."""
    stepper = STEPS[state.mode]
    return stepper(state, sign)


def fault_at_end(state):
    """The kind of fault of a text that ends in this state, or NO_FAULT."""
    if state.mode == IN_SEGMENT and is_dots_alone(state.dots):
        return BAD_DOTS
    if state.mode in (BEHIND_SCHEME, BEHIND_FIRST_SLASH, BEHIND_PERCENT, BEHIND_HEX_DIGIT):
        return CUT_SHORT
    if state.mode == IN_HOST and state.label == 0:
        return CUT_SHORT
    if state.mode == IN_PORT and state.port == 0:
        return CUT_SHORT
    return NO_FAULT


def fault_on_the_way(state, text):
    """Take all signs of the text; the kind and the place of the first one that can't stand, or None."""
    for place, sign in enumerate(text):
        kind = step(state, sign)
        if kind != NO_FAULT:
            return (kind, place)
    return None


def first_fault(text):
    """The kind and the place of the text's first fault, or None."""
    state = State()
    fault = fault_on_the_way(state, text)
    if fault is not None:
        return fault
    kind = fault_at_end(state)
    if kind != NO_FAULT:
        return (kind, len(text))
    return None


def fault_answer(fault):
    return [1, fault[0], fault[1]]


def state_numbers(state):
    return [state.mode, state.before, state.first, state.scheme, state.dots, state.label, state.port]
