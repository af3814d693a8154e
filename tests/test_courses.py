"""Points 86, 88 and 89: the shares of courses, the likeliest ones, and their papers."""

import unittest
from fractions import Fraction
from random import Random

from allworlds.chains import Chain, chain_total
from allworlds.courses import CoursePaper, best_courses, course_paper, course_share, is_course_paper
from allworlds.errors import InvalidNumber
from tests.drawn import NO_INTEGERS, NO_TUPLES, Odd, draw_row, drawn, nest, pair_of, plain
from tests.test_chains import CHAIN, HALF, SURE, courses, draw_chain, draw_seen, plain_course


def ranking(chain, seen):
    """All courses with a share above 0, the greatest first."""
    told = [(-plain_course(chain, seen, course), course) for course in courses(chain, len(seen))]
    return [(-share, course) for share, course in sorted(told) if share]


def plain_is_paper(chain, seen, many, told, heights):
    """Whether pairs and rows of fractions are a right paper, by trying all courses."""
    told = [(plain(share), course) for share, course in told]
    heights = [[plain(height) for height in row] for row in heights]
    names = [course for _, course in told]
    if len(told) > many or len(set(names)) < len(names):
        return False
    if any(share <= 0 or share != plain_course(chain, seen, course) for share, course in told):
        return False
    if any(one[0] < other[0] for one, other in zip(told, told[1:])):
        return False
    for moment, row in enumerate(heights):
        for case, height in enumerate(row):
            sign = Fraction(1) if seen[moment] is None else plain(chain.shows[case][seen[moment]])
            dues = [Fraction(1)]
            if moment + 1 < len(seen):
                dues = [plain(step) * behind for step, behind in zip(chain.steps[case], heights[moment + 1])]
            if any(height < sign * due for due in dues) or height < 0:
                return False
    if many == 0:
        return True
    last = told[-1][0] if len(told) == many else 0
    for course in courses(chain, len(seen)):
        for moment in range(len(seen)):
            begun = course[:moment + 1]
            if not any(name[:moment + 1] == begun for name in names):
                share = plain_course(chain, seen[:moment], course[:moment]) if moment else Fraction(1)
                step = chain.steps[course[moment - 1]][course[moment]] if moment else chain.start[course[0]]
                if share * plain(step) * heights[moment][course[moment]] > last:
                    return False
                break
    return True


class TestBest(unittest.TestCase):
    def test_example(self):
        self.assertEqual(best_courses(CHAIN, (0, 1), 2), (((1, 12), (0, 0)), ((1, 12), (1, 1))))
        self.assertEqual(course_share(chain=CHAIN, seen=(0, 1), course=(0, 0)), (1, 12))
        self.assertEqual(best_courses(chain=CHAIN, seen=(0, 1), many=0), ())

    def test_share(self):
        for rng in drawn(60, 110):
            chain = draw_chain(rng)
            seen = draw_seen(rng, chain)
            told = {course: plain(course_share(chain, seen, course)) for course in courses(chain, len(seen))}
            self.assertEqual(told, {course: plain_course(chain, seen, course) for course in told})
            self.assertEqual(sum(told.values()), plain(chain_total(chain, seen)))

    def test_best(self):
        for rng in drawn(150, 111):
            chain = draw_chain(rng)
            seen = draw_seen(rng, chain, 5)
            due = ranking(chain, seen)
            for many in (0, 1, 2, 3, len(due), len(due) + 1, 1000):
                best = best_courses(chain, seen, min(many, 1000))
                self.assertIs(type(best), tuple)
                self.assertEqual([(plain(share), course) for share, course in best], due[:many])

    def test_equal_shares(self):
        even = Chain(HALF, (HALF, HALF), (HALF, HALF))
        self.assertEqual([course for _, course in best_courses(even, (None,) * 3, 8)], courses(even, 3))
        self.assertEqual([course for _, course in best_courses(even, (0,) * 60, 2)], [(0,) * 60, (0,) * 59 + (1,)])
        best = best_courses(even, (None,) * 60, 1000)
        self.assertEqual([course for _, course in best], sorted(course for _, course in best))
        self.assertEqual({share for share, _ in best}, {(1, 2 ** 60)})

    def test_no_course(self):
        self.assertEqual(best_courses(SURE, (1,), 5), ())
        self.assertEqual(best_courses(SURE, (0, 0, 1), 5), ())
        self.assertEqual(best_courses(SURE, (0, 0), 5), (((1, 1), (0, 0)),))

    def test_many(self):
        paper = course_paper(CHAIN, (0,), 1)
        for value in NO_INTEGERS + NO_TUPLES + (-1, 1001, 10 ** 400, (1,)):
            if type(value) is int and 0 <= value <= 1000:
                continue
            for told in (lambda: best_courses(CHAIN, (0,), value), lambda: course_paper(CHAIN, (0,), value),
                         lambda: is_course_paper(CHAIN, (0,), value, paper), lambda: is_course_paper(CHAIN, (0,), value, None)):
                with self.assertRaises(InvalidNumber) as caught:
                    told()
                self.assertEqual(caught.exception.word, "many")

    def test_sixty_moments(self):
        rng = Random(7)
        chain = Chain(draw_row(rng, 3), tuple(draw_row(rng, 3, False) for _ in range(3)),
                      tuple(draw_row(rng, 2, False) for _ in range(3)))
        seen = tuple(rng.choice((0, 1, None)) for _ in range(60))
        best = best_courses(chain, seen, 1000)
        self.assertEqual(len(best), 1000)
        self.assertEqual([plain(share) for share, _ in best], sorted([plain(share) for share, _ in best], reverse=True))
        for share, course in best[::100]:
            self.assertEqual(plain(share), plain_course(chain, seen, course))
        self.assertEqual(len({course for _, course in best}), 1000)
        paper = course_paper(chain, seen, 1000)
        self.assertEqual(paper.courses, best)
        self.assertIs(is_course_paper(chain, seen, 1000, paper), True)
        self.assertIs(is_course_paper(chain, seen, 999, CoursePaper(best[:999], paper.heights)), True)
        self.assertIs(is_course_paper(chain, seen, 1000, CoursePaper(best[:999], paper.heights)), False)
        self.assertIs(is_course_paper(chain, seen, 999, CoursePaper(best[1:], paper.heights)), best[0][0] == best[-1][0])


class TestPapers(unittest.TestCase):
    def right(self, chain, seen, many, value):
        told = is_course_paper(chain, seen, many, value)
        self.assertIs(type(told), bool)
        return told

    def test_attributes(self):
        odd = [1]
        paper = CoursePaper(courses=odd, heights=None)
        self.assertEqual(vars(paper), {"courses": [1], "heights": None})
        self.assertIs(paper.courses, odd)

    def test_names_of_parameters(self):
        paper = course_paper(chain=CHAIN, seen=(0, 1), many=2)
        self.assertEqual(paper.courses, best_courses(CHAIN, (0, 1), 2))
        self.assertIs(is_course_paper(chain=CHAIN, seen=(0, 1), many=2, value=paper), True)

    def test_made(self):
        for rng in drawn(80, 112):
            chain = draw_chain(rng)
            seen = draw_seen(rng, chain)
            for many in (0, 1, 2, 5, 1000):
                paper = course_paper(chain, seen, many)
                self.assertEqual([(plain(share), course) for share, course in paper.courses], ranking(chain, seen)[:many])
                self.assertTrue(plain_is_paper(chain, seen, many, paper.courses, paper.heights))
                self.assertTrue(self.right(chain, seen, many, paper))

    def test_drawn(self):
        right = wrong = 0
        for rng in drawn(500, 113):
            chain = draw_chain(rng)
            seen = draw_seen(rng, chain, 3)
            many = rng.randint(0, 4)
            paper = course_paper(chain, seen, many)
            heights = [list(row) for row in paper.heights]
            for _ in range(rng.randint(0, 2)):
                row = rng.choice(heights)
                at = rng.randrange(len(row))
                row[at] = pair_of(max(Fraction(0), plain(row[at]) * rng.choice((1, 2)) + Fraction(rng.randint(-1, 2), 40)))
            told = list(paper.courses)
            kind = rng.randrange(7)
            every = ranking(chain, seen)
            if kind == 0 and every:
                told = [(pair_of(share), course) for share, course in sorted(rng.sample(every, min(many, len(every))))[::-1]]
            elif kind == 1 and told:
                del told[rng.randrange(len(told))]
            elif kind == 2 and told:
                told.append(rng.choice(told))
            elif kind == 3 and told:
                at = rng.randrange(len(told))
                told[at] = (pair_of(plain(told[at][0]) + Fraction(1, 60)), told[at][1])
            elif kind == 4:
                told = told[::-1]
            heights = tuple(tuple(row) for row in heights)
            due = plain_is_paper(chain, seen, many, told, heights)
            self.assertIs(self.right(chain, seen, many, CoursePaper(tuple(told), heights)), due)
            right, wrong = right + due, wrong + (not due)
            if due and many:
                last = told[-1][0] if len(told) == many else (0, 1)
                names = [course for _, course in told]
                for share, course in every:
                    self.assertTrue(course in names or share <= plain(last))
        self.assertGreater(min(right, wrong), 100)

    def test_told_courses_may_be_others_of_equal_share(self):
        even = Chain(HALF, (HALF, HALF), (HALF, HALF))
        paper = course_paper(even, (None, None), 1)
        for course in courses(even, 2):
            self.assertTrue(self.right(even, (None, None), 1, CoursePaper((((1, 4), course),), paper.heights)))

    def test_many_0(self):
        heights = ((HALF[0], HALF[0]),)
        self.assertTrue(self.right(CHAIN, (None,), 0, CoursePaper((), (((1, 1), (5, 1)),))))
        self.assertFalse(self.right(CHAIN, (None,), 0, CoursePaper((), heights)))
        self.assertFalse(self.right(CHAIN, (None,), 0, CoursePaper((((1, 2), (0,)),), (((1, 1), (1, 1)),))))
        self.assertFalse(self.right(CHAIN, (None,), 1, CoursePaper((), (((1, 1), (1, 1)),))))

    def test_no_course(self):
        paper = course_paper(SURE, (1, 0), 3)
        self.assertEqual(paper.courses, ())
        self.assertTrue(self.right(SURE, (1, 0), 3, paper))

    def test_sequence_and_lengths(self):
        uneven = Chain(((1, 3), (2, 3)), (HALF, HALF), (HALF, HALF))
        told = best_courses(uneven, (None, None), 4)
        heights = course_paper(uneven, (None, None), 4).heights
        self.assertTrue(self.right(uneven, (None, None), 4, CoursePaper(told, heights)))
        self.assertFalse(self.right(uneven, (None, None), 4, CoursePaper(told[::-1], heights)))
        self.assertTrue(self.right(uneven, (None, None), 4, CoursePaper((told[1], told[0]) + told[2:], heights)))
        certain = Chain(((1, 2), (1, 2)), (((1, 1), (0, 1)), ((0, 1), (1, 1))), (HALF, HALF))
        told, heights = best_courses(certain, (None, None), 2), course_paper(certain, (None, None), 2).heights
        self.assertEqual(told, (((1, 2), (0, 0)), ((1, 2), (1, 1))))
        for course in ((0,), (0, 0, 0), ()):
            self.assertFalse(self.right(certain, (None, None), 2, CoursePaper((((1, 2), course), told[1]), heights)))
            self.assertFalse(self.right(certain, (None, None), 2, CoursePaper((told[0], ((1, 2), course)), heights)))
        # A course with the share 0 is none of those told.
        self.assertFalse(self.right(certain, (None, None), 3, CoursePaper(told + (((0, 1), (0, 1)),), heights)))
        self.assertTrue(self.right(certain, (None, None), 3, CoursePaper(told, heights)))

    def test_any_value(self):
        seen = (0, 1)
        paper = course_paper(CHAIN, seen, 2)
        told, heights = paper.courses, paper.heights
        self.assertTrue(self.right(CHAIN, seen, 2, paper))
        for value in NO_TUPLES + ((), nest(100000), (told, heights), (None, None)):
            self.assertFalse(self.right(CHAIN, seen, 2, value))
            wrong = [(value, heights), (told, value), ((value,) + told[1:], heights), (told, (value,) + heights[1:]),
                     (((value, told[0][1]),) + told[1:], heights), (((told[0][0], value),) + told[1:], heights),
                     (((told[0][0], (0, value)),) + told[1:], heights), (told, ((value, heights[0][1]),) + heights[1:]),
                     (told, ((((1, value)), heights[0][1]),) + heights[1:])]
            for courses_told, rows in wrong:
                same = isinstance(value, int) and value is not True and value is not False and courses_told == told
                if not same and not (type(value) is int and value in (0, 1)):
                    self.assertFalse(self.right(CHAIN, seen, 2, CoursePaper(courses_told, rows)), value)
        self.assertFalse(self.right(CHAIN, seen, 2, CoursePaper(list(told), heights)))
        self.assertFalse(self.right(CHAIN, seen, 2, CoursePaper(told, list(heights))))
        self.assertFalse(self.right(CHAIN, seen, 2, CoursePaper(told, heights + heights[:1])))
        self.assertFalse(self.right(CHAIN, seen, 2, CoursePaper(told, heights[:1])))
        self.assertFalse(self.right(CHAIN, seen, 2, CoursePaper(told, (heights[0] + heights[0][:1], heights[1]))))
        for item in NO_INTEGERS + (Odd(), -1, 2):
            self.assertFalse(self.right(CHAIN, seen, 2, CoursePaper((((1, 12), (0, item)), told[1]), heights)))
        for share in ((2, 24), (1, 13), (True, 12), (-1, 12), (0, 1), 0, (1, 12, 1)):
            self.assertFalse(self.right(CHAIN, seen, 2, CoursePaper(((share, (0, 0)), told[1]), heights)))
        self.assertFalse(self.right(CHAIN, seen, 2, CoursePaper(((told[0] + (0,)), told[1]), heights)))


if __name__ == "__main__":
    unittest.main()
