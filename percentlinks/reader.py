"""From a text without a fault to its tree."""

from percentlinks.link import RELATIVE, ROOTED, WHOLE, Link, Site
from percentlinks.signs import AMPERSAND, COLON, DOT, EQUALS, HASH, PERCENT, QUESTION, SLASH, hex_worth


def pieces_between(text, divider):
    """The pieces that the divider parts the text into, always at least one."""
    pieces = []
    piece = []
    for sign in text:
        if sign == divider:
            pieces.append(piece)
            piece = []
        else:
            piece.append(sign)
    pieces.append(piece)
    return pieces


def content_of(text):
    """The text's signs with each percent form as its byte."""
    content = []
    place = 0
    while place < len(text):
        if text[place] == PERCENT:
            content.append(hex_worth(text[place + 1]) * 16 + hex_worth(text[place + 2]))
            place += 3
        else:
            content.append(text[place])
            place += 1
    return content


def contents_of(texts):
    return [content_of(text) for text in texts]


def part_of(text):
    pieces = contents_of(pieces_between(text, EQUALS))
    if len(pieces) == 1:
        return (pieces[0], None)
    return (pieces[0], pieces[1])


def query_of(text):
    return [part_of(piece) for piece in pieces_between(text, AMPERSAND)]


def port_of(digits):
    port = 0
    for digit in digits:
        port = port * 10 + digit - 48
    return port


def site_of(scheme, host):
    """The scheme comes with its colon."""
    secure = 1 if len(scheme) == 6 else 0
    pieces = pieces_between(host, COLON)
    labels = pieces_between(pieces[0], DOT)
    port = 0
    if len(pieces) == 2:
        port = port_of(pieces[1])
    return Site(secure, labels, port)


def link_of(path, query, fragment):
    pieces = pieces_between(path, SLASH)
    # A path without a fault has a colon in whole links alone.
    if COLON in path:
        return Link(WHOLE, site_of(pieces[0], pieces[2]), contents_of(pieces[3:]), query, fragment)
    if len(path) > 0 and path[0] == SLASH:
        return Link(ROOTED, None, contents_of(pieces[1:]), query, fragment)
    return Link(RELATIVE, None, contents_of(pieces), query, fragment)


def read_link(text):
    """The tree of a text that has no fault."""
    around_hash = pieces_between(text, HASH)
    around_question = pieces_between(around_hash[0], QUESTION)
    fragment = None
    if len(around_hash) == 2:
        fragment = content_of(around_hash[1])
    query = None
    if len(around_question) == 2:
        query = query_of(around_question[1])
    return link_of(around_question[0], query, fragment)
