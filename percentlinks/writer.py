"""From a tree to its one form."""

from percentlinks.link import RELATIVE, WHOLE
from percentlinks.signs import AMPERSAND, COLON, DOT, EQUALS, HASH, HTTPS, QUESTION, SLASH
from percentlinks.signs import is_mark, is_text_sign, percent_form


def written_content(content):
    written = []
    for sign in content:
        if is_text_sign(sign):
            written.append(sign)
        else:
            written.extend(percent_form(sign))
    return written


def is_dots_alone(content):
    plain = [sign for sign in content if not is_mark(sign)]
    return plain == [DOT] or plain == [DOT, DOT]


def written_segment(content):
    if not is_dots_alone(content):
        return written_content(content)
    written = []
    for sign in content:
        if sign == DOT:
            written.extend(percent_form(sign))
        else:
            written.append(sign)
    return written


def joined(texts, divider):
    written = []
    for turn, text in enumerate(texts):
        if turn > 0:
            written.append(divider)
        written.extend(text)
    return written


def digits_of(number):
    """The digits of a whole number above 0."""
    digits = []
    while number > 0:
        digits.append(48 + number % 10)
        number = number // 10
    return list(reversed(digits))


def written_site(site):
    written = list(HTTPS[:4 + site.secure])
    written.extend([COLON, SLASH, SLASH])
    written.extend(joined(site.labels, DOT))
    if site.port > 0:
        written.append(COLON)
        written.extend(digits_of(site.port))
    return written


def written_path(link):
    written = []
    if link.head == WHOLE:
        written.extend(written_site(link.site))
    if link.head != RELATIVE and len(link.segments) > 0:
        written.append(SLASH)
    written.extend(joined([written_segment(segment) for segment in link.segments], SLASH))
    return written


def written_part(part):
    name = written_content(part[0])
    if part[1] is None:
        return name
    return name + [EQUALS] + written_content(part[1])


def one_form(link):
    written = written_path(link)
    if link.query is not None:
        written.append(QUESTION)
        written.extend(joined([written_part(part) for part in link.query], AMPERSAND))
    if link.fragment is not None:
        written.append(HASH)
        written.extend(written_content(link.fragment))
    return written
