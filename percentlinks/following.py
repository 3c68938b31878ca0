"""One link followed from another."""

from percentlinks.link import RELATIVE, ROOTED, WHOLE, Link


def followed(link, base):
    """The tree that the link leads to from the base."""
    if link.head == WHOLE:
        return link
    if link.head == RELATIVE:
        return Link(base.head, base.site, base.segments[:-1] + link.segments, link.query, link.fragment)
    head = WHOLE if base.head == WHOLE else ROOTED
    return Link(head, base.site, link.segments, link.query, link.fragment)
