"""The tree of a link."""

from percentlinks.signs import is_mark

RELATIVE = 0
ROOTED = 1
WHOLE = 2


class Site:
    """What a whole link has ahead of its segments."""

    def __init__(self, secure, labels, port):
        # 1 for https, 0 for http.
        self.secure = secure
        self.labels = labels
        # 0 if there is no port.
        self.port = port


class Link:
    """A tree, never changed once it is made: a changed link is another one."""

    def __init__(self, head, site, segments, query, fragment):
        self.head = head
        # None if the link isn't whole.
        self.site = site
        self.segments = segments
        # None, or a list of parts: a name and a value, which is None if there is none.
        self.query = query
        # None if there is no fragment.
        self.fragment = fragment


def empty_link():
    return Link(RELATIVE, None, [[]], None, None)


def with_segments(link, segments):
    return Link(link.head, link.site, segments, link.query, link.fragment)


def with_query(link, query):
    return Link(link.head, link.site, link.segments, query, link.fragment)


def with_fragment(link, fragment):
    return Link(link.head, link.site, link.segments, link.query, fragment)


def has_byte(content):
    return any([not is_mark(sign) for sign in content])


def is_good(link):
    """Whether the first segment can't be mistaken for the beginning of another link."""
    return link.head == WHOLE or len(link.segments) == 1 or has_byte(link.segments[0])


def flat_texts(texts):
    """How many texts there are, and each one with its length before it."""
    flat = [len(texts)]
    for text in texts:
        flat.append(len(text))
        flat.extend(text)
    return flat


def flat_choice(text):
    """0 for no text, or 1 and the text with its length before it."""
    if text is None:
        return [0]
    return [1, len(text)] + text


def flat_query(query):
    if query is None:
        return [0]
    flat = [1, len(query)]
    for name, value in query:
        flat.append(len(name))
        flat.extend(name)
        flat.extend(flat_choice(value))
    return flat


def flat_site(site):
    return [site.secure] + flat_texts(site.labels) + [site.port]


def flat_form(link):
    flat = [link.head]
    if link.head == WHOLE:
        flat.extend(flat_site(link.site))
    flat.extend(flat_texts(link.segments))
    flat.extend(flat_query(link.query))
    flat.extend(flat_choice(link.fragment))
    return flat
