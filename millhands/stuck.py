"""Hands that wait for one another: who is stuck, and who has to go so that nobody is."""

from itertools import combinations

from millhands.answers import check_sound, least_releases
from millhands.books import check_web
from millhands.logs import kept
from millhands.wishes import check_wish, check_wishes


def hangs_on(book, log, wish, web):
    """The ascending tuple of the lots that each least release of a wish names."""
    check_wish(book.letters, log, wish)
    releases = least_releases(book, log, wish, web)
    if not releases:
        return ()
    named = [some + gone for some, gone in releases]
    return tuple(sorted([number for number in named[0] if all([number in numbers for numbers in named])]))


def check_asked(book, log, wishes, web):
    check_wishes(book.letters, log, wishes)
    check_web(book.letters, web)
    check_sound(book, log, web)


def stuck_lots(book, log, wishes, web):
    """The ascending tuple of the lots that are stuck by some wishes on a web."""
    check_asked(book, log, wishes, web)
    return stuck_by(book, log, wishes, web)


def stuck_by(book, log, wishes, web):
    """The greatest stuck set: lots are left out as long as one has a least release that names none of it."""
    releases = {wish[0]: least_releases(book, log, wish, web) for wish in wishes}
    left = sorted(releases)
    while True:
        further = [number for number in left if all([does_name(release, left) for release in releases[number]])]
        if further == left:
            return tuple(left)
        left = further


def does_name(release, numbers):
    """Whether a release names one of some lots."""
    return any([number in release[0] or number in release[1] for number in numbers])


def ways_out(book, log, wishes, web):
    """The ascending tuple of all least sets of open lots without which no lot is stuck."""
    check_asked(book, log, wishes, web)
    still = [lot[0] for lot in log if not lot[1]]
    found = []
    for many in range(len(still) + 1):
        for some in combinations(still, many):
            if not any([is_part(way, some) for way in found]) and is_way_out(book, log, wishes, web, some):
                found.append(some)
    return tuple(sorted(found))


def is_part(some, others):
    return all([number in others for number in some])


def is_way_out(book, log, wishes, web, some):
    """Whether no lot is stuck when these are taken out."""
    rest = kept(log, tuple([lot[0] for lot in log if lot[0] not in some]))
    return stuck_by(book, rest, [wish for wish in wishes if wish[0] not in some], web) == ()
