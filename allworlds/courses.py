"""The likeliest courses of a hidden chain, and papers of them."""

from heapq import heappop, heappush

from allworlds.chains import sign_tops, whole_rows
from allworlds.errors import InvalidNumber
from allworlds.kinds import is_below
from allworlds.numbers import ONE, ZERO, fraction_of, is_fraction, is_less, product_of_all, timed
from allworlds.rows import are_from_zero

MOST_COURSES = 1000


def sign_fraction(chain, sign, case):
    """The fraction of a sign that is seen with a case, 1 for none."""
    return ONE if sign is None else chain.shows[case][sign]


def entry_fraction(chain, course, case):
    """The fraction with which a case follows a course, which may be empty."""
    return chain.steps[course[-1]][case] if course else chain.start[case]


def course_share(chain, seen, course):
    """The share of a course."""
    return product_of_all([
        timed(entry_fraction(chain, course[:moment], case), sign_fraction(chain, seen[moment], case))
        for moment, case in enumerate(course)
    ])


def check_many(many):
    """Raise InvalidNumber for any value that is no number of courses."""
    if not is_below(many, MOST_COURSES + 1):
        raise InvalidNumber("many")


def best_courses(chain, seen, many):
    """The so many courses with the greatest shares, with these; many may be any value."""
    check_many(many)
    return likeliest(chain, seen, height_tops(chain, seen), many)


def height_tops(chain, seen):
    """For each moment the greatest share of what follows a case from its sign on, as whole numbers over one bottom."""
    steps, step_bottom = whole_rows(chain.steps)
    behind = []
    bottom = 1
    found = []
    for sign in reversed(seen):
        shown, below = sign_tops(chain, sign)
        tops = shown
        bottom = bottom * below
        if found:
            ways = [max([step * top for step, top in zip(row, behind)]) for row in steps]
            tops = [top * way for top, way in zip(shown, ways)]
            bottom = bottom * step_bottom
        found.append((tops, bottom))
        behind = tops
    return found[::-1]


def likeliest(chain, seen, heights, many):
    """The so many likeliest courses, by the heights of what can follow each case."""
    starts, bottom = whole_rows((chain.start,))
    steps, _ = whole_rows(chain.steps)
    shows = [sign_tops(chain, sign)[0] for sign in seen]
    bottom = bottom * heights[0][1]
    # What is begun stands by the greatest share that it can get, equal ones by what is begun; so
    # a course comes out behind all that are ahead of it.
    queue = []
    push_longer(queue, (), 1, starts[0], heights)
    found = []
    while queue and len(found) < many:
        bound, course, top = heappop(queue)
        if len(course) == len(seen):
            found.append((fraction_of(-bound, bottom), course))
        else:
            shown = top * shows[len(course) - 1][course[-1]]
            push_longer(queue, course, shown, steps[course[-1]], heights)
    return tuple(found)


def push_longer(queue, course, top, row, heights):
    """Push what is begun with one case more, as far as its share can be above 0."""
    for case, step in enumerate(row):
        further = top * step
        bound = further * heights[len(course)][0][case]
        if bound > 0:
            heappush(queue, (-bound, course + (case,), further))


class CoursePaper:
    """A paper that tells the likeliest courses, with heights that bound all others."""

    def __init__(self, courses, heights):
        self.courses = courses
        self.heights = heights


def course_paper(chain, seen, many):
    """Some right paper of the so many likeliest courses; many may be any value."""
    courses = best_courses(chain, seen, many)
    heights = [tuple([fraction_of(top, bottom) for top in tops]) for tops, bottom in height_tops(chain, seen)]
    return CoursePaper(courses, tuple(heights))


def is_course_paper(chain, seen, many, value):
    """Whether any value is a right paper of so many courses; many may be any value."""
    check_many(many)
    if not isinstance(value, CoursePaper) or not are_courses(chain, seen, many, value.courses):
        return False
    if not are_heights_of(chain, seen, value.heights):
        return False
    if many == 0:
        return True
    last = value.courses[-1][0] if len(value.courses) == many else ZERO
    return are_bounded(chain, seen, value.courses, value.heights, last)


def are_courses(chain, seen, many, value):
    """Whether any value is a tuple of at most so many unlike courses with their shares, greatest first."""
    if not isinstance(value, tuple) or len(value) > many:
        return False
    known = {}
    last = None
    for pair in value:
        if not is_placed_course(chain, seen, pair) or pair[1] in known:
            return False
        if last is not None and is_less(last, pair[0]):
            return False
        known[pair[1]] = True
        last = pair[0]
    return True


def is_placed_course(chain, seen, value):
    """Whether any value is a pair of the share, above 0, of a course and the course."""
    if not isinstance(value, tuple) or len(value) != 2:
        return False
    share, course = value
    if not isinstance(course, tuple) or len(course) != len(seen):
        return False
    if not all([is_below(case, len(chain.start)) for case in course]):
        return False
    return is_fraction(share) and share[0] > 0 and share == course_share(chain, seen, course)


def are_heights_of(chain, seen, value):
    """Whether any value has heights for each moment that are not below what they must be."""
    if not isinstance(value, tuple) or len(value) != len(seen):
        return False
    many = len(chain.start)
    if not all([are_from_zero(row, many) for row in value]):
        return False
    for moment, row in enumerate(value):
        behind = value[moment + 1] if moment + 1 < len(value) else None
        for case in range(many):
            sign = sign_fraction(chain, seen[moment], case)
            for due in dues_behind(chain, case, behind):
                if is_less(row[case], timed(sign, due)):
                    return False
    return True


def dues_behind(chain, case, behind):
    """What a height must reach before its sign is counted, from the heights behind it or None."""
    if behind is None:
        return [ONE]
    return [timed(step, height) for step, height in zip(chain.steps[case], behind)]


def are_bounded(chain, seen, courses, heights, last):
    """Whether all that leaves the told courses is at most the last told share, by the heights."""
    begun = {(): ONE}
    for _, course in courses:
        for moment, case in enumerate(course):
            before = course[:moment]
            if course[:moment + 1] not in begun:
                share = timed(begun[before], entry_fraction(chain, before, case))
                begun[course[:moment + 1]] = timed(share, sign_fraction(chain, seen[moment], case))
    for before, share in begun.items():
        if len(before) < len(seen):
            for case, height in enumerate(heights[len(before)]):
                bound = timed(timed(share, entry_fraction(chain, before, case)), height)
                if before + (case,) not in begun and is_less(last, bound):
                    return False
    return True
