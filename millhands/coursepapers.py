"""Papers that a goal comes or is shut out, and that all that stands can come back to it or some web is stuck."""

from millhands.books import is_web
from millhands.courses import all_coming, all_standing, coming_ways, is_closed, led_by, wrong_place
from millhands.errors import TooLong
from millhands.helpers import check_same_letters, is_paper
from millhands.tellers import all_webs, are_apart, but_not, first_beyond, is_end_set, is_within, lone_web


def judge_courses(book, shelf, start, goal, *, longest=200):
    """Any paper that a goal comes from a start, by the fewest wefts, or that it is shut out."""
    check_letters(book, start, goal)
    way = lightest_course(book, shelf, start, goal, longest)
    return ("shut", all_standing(book, shelf, start)) if way is None else ("comes", *way)


def check_letters(book, start, goal):
    check_same_letters(book.letters, [start.letters, goal.letters])


def lightest_course(book, shelf, start, goal, most):
    """A web of a start, and a course of the fewest wefts from it to a goal; None if no course leads there."""
    ways = coming_ways(book, shelf, goal)
    found = ways.lightest(start)
    if found is None:
        return None
    many, parts = found
    if many > most:
        raise TooLong(most)
    # The first part that stands in the list reads what is beneath the whole web.
    web = "".join([letter for _, letter, _ in parts[1:]])
    return web, ways.course_of(parts)


def web_led(book, shelf, start, web, course):
    """The web to which any value as a course leads any value as a web of a start, None if there is none."""
    if not is_web(book.letters, web) or not start.says(web) or wrong_place(shelf, course) is not None:
        return None
    return led_by(book, shelf, web, course)


def is_closed_paper(book, shelf, thing):
    """Whether any value is a closed end set over the letters of a book."""
    return is_end_set(thing) and thing.letters == book.letters and is_closed(book, shelf, thing)


def courses_hold(book, shelf, start, goal, thing):
    """Whether any value is a paper that a goal comes from a start, or is shut out."""
    check_letters(book, start, goal)
    if is_paper(thing, "comes", 3):
        led = web_led(book, shelf, start, thing[1], thing[2])
        return led is not None and goal.says(led)
    if not is_paper(thing, "shut", 2) or not is_closed_paper(book, shelf, thing[1]):
        return False
    return is_within(start, thing[1]) and are_apart(thing[1], goal)


def first_stuck(book, shelf, start, goal):
    """The first web that can stand from a start and cannot come to a goal, None if there is none."""
    check_letters(book, start, goal)
    return first_beyond(all_standing(book, shelf, start), all_coming(book, shelf, goal))


def judge_back(book, shelf, start, goal, *, longest=200):
    """Any paper that all that can stand can come to a goal, or that the first web that is stuck cannot."""
    check_letters(book, start, goal)
    stands = all_standing(book, shelf, start)
    comes = all_coming(book, shelf, goal)
    web = first_beyond(stands, comes)
    if web is None:
        return ("back", stands)
    way = lightest_course(book, shelf, start, lone_web(book.letters, web), longest)
    # What cannot come to the goal leads to nothing that can.
    return ("stuck", *way, but_not(all_webs(book.letters), comes))


def back_holds(book, shelf, start, goal, thing):
    """Whether any value is a paper that all that can stand can come to a goal, or that a web is stuck."""
    check_letters(book, start, goal)
    if is_paper(thing, "stuck", 4):
        led = web_led(book, shelf, start, thing[1], thing[2])
        if led is None or not is_closed_paper(book, shelf, thing[3]):
            return False
        return thing[3].says(led) and are_apart(thing[3], goal)
    if not is_paper(thing, "back", 2) or not is_closed_paper(book, shelf, thing[1]):
        return False
    return is_within(start, thing[1]) and is_within(thing[1], all_coming(book, shelf, goal))
