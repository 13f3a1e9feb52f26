"""Readers that pass one another: forward, one ahead of the other, or even."""

from millhands.books import is_web
from millhands.helpers import check_same_letters, is_paper
from millhands.ledsets import alike_set, domain
from millhands.readers import joined
from millhands.tellers import all_webs, both, but_not, either, first_web, is_end_set, is_within


def check_letters(one, other, ends):
    """All that goes into one call has the same letters, the end set, too, if there is one."""
    check_same_letters(one.letters, [other.letters] if ends is None else [other.letters, ends.letters])


def asked_ends(one, ends):
    """The end set that is asked about: None stands for all webs."""
    return all_webs(one.letters) if ends is None else ends


def complement(ends):
    return but_not(all_webs(ends.letters), ends)


def passing_set(word, one, other):
    """The least end set of the webs on which two readers pass as a word tells."""
    check_same_letters(one.letters, [other.letters])
    onward = joined(one, other)
    backward = joined(other, one)
    same = alike_set(onward, backward)
    if word == "even":
        return same
    if word == "ahead":
        return either(same, complement(domain(backward)))
    fitting = both(domain(one), domain(other))
    # Where both fit the web it is not enough that neither order fits.
    return either(both(same, domain(onward)), complement(fitting))


def do_pass(word, one, other, *, ends=None):
    """Whether two readers pass as a word tells, on each web of an end set."""
    return first_barred(word, one, other, ends=ends) is None


def first_barred(word, one, other, *, ends=None):
    """The first web of an end set on which two readers do not pass as a word tells, None if there is none."""
    check_letters(one, other, ends)
    return first_web(but_not(asked_ends(one, ends), passing_set(word, one, other)))


def judge_passing(word, one, other, *, ends=None):
    """Any paper that two readers pass on an end set, or the first web that bars."""
    web = first_barred(word, one, other, ends=ends)
    return ("passes", passing_set(word, one, other)) if web is None else ("barred", web)


def passing_holds(word, one, other, thing, *, ends=None):
    """Whether any value is a paper that two readers pass on an end set, or are barred there."""
    check_letters(one, other, ends)
    asked = asked_ends(one, ends)
    if is_paper(thing, "barred", 2):
        return is_web(one.letters, thing[1]) and asked.says(thing[1]) and is_barred(word, one, other, thing[1])
    if not is_paper(thing, "passes", 2) or not is_end_set(thing[1]) or thing[1].letters != one.letters:
        return False
    return is_within(asked, thing[1]) and is_within(thing[1], passing_set(word, one, other))


def is_barred(word, one, other, web):
    return not passing_set(word, one, other).says(web)
