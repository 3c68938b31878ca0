"""Data, and how they come to stand where the marks were."""

from percentlinks.link import Link
from percentlinks.signs import FIRST_MARK, LAST_BYTE, all_up_to, is_mark, is_plain, percent_form


def data_of(row):
    """The data that the row tells, or None if it isn't whole."""
    data = []
    place = 0
    while place < len(row):
        begin = place + 1
        behind = begin + row[place]
        if behind < begin or behind > len(row):
            return None
        datum = row[begin:behind]
        if not all_up_to(LAST_BYTE, datum):
            return None
        data.append(datum)
        place = behind
    return data


def written_datum(datum):
    """The dot, too, becomes a percent form: no datum may make a segment one of dots alone."""
    written = []
    for byte in datum:
        if is_plain(byte):
            written.append(byte)
        else:
            written.extend(percent_form(byte))
    return written


def written_data(data):
    return [written_datum(datum) for datum in data]


def datum_of(data, mark):
    index = mark - FIRST_MARK
    if index < len(data):
        return data[index]
    return []


def length_with_data(text, data):
    """How many signs with_data would give, told without making them: they may be millions."""
    return sum([len(datum_of(data, sign)) if is_mark(sign) else 1 for sign in text])


def with_data(text, data):
    """The text with each mark replaced by its datum."""
    replaced = []
    for sign in text:
        if is_mark(sign):
            replaced.extend(datum_of(data, sign))
        else:
            replaced.append(sign)
    return replaced


def choice_with_data(text, data):
    """None stays None."""
    if text is None:
        return None
    return with_data(text, data)


def query_with_data(query, data):
    if query is None:
        return None
    return [(with_data(part[0], data), choice_with_data(part[1], data)) for part in query]


def link_with_data(link, data):
    segments = [with_data(segment, data) for segment in link.segments]
    query = query_with_data(link.query, data)
    return Link(link.head, link.site, segments, query, choice_with_data(link.fragment, data))
