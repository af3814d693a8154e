"""Point 48: steps of trees."""

import unittest

from allworlds.routes import neighbours_in, side_of, steps_from, steps_into, steps_joining, steps_to
from tests.drawn import draw_lot, drawn
from tests.test_trees import draw_shape, plain_way

TREE = (((0,), (0, 1), (0, 2), (2, 3), (1,), (3, 4)), (-1, 0, 0, 2, 1, 3))


class TestSteps(unittest.TestCase):
    def test_simple(self):
        self.assertEqual([neighbours_in(TREE, number) for number in range(6)], [(1, 2), (0, 4), (0, 3), (2, 5), (1,), (3,)])
        self.assertEqual(steps_to(TREE, 0), ((5, 3), (3, 2), (4, 1), (1, 0), (2, 0)))
        self.assertEqual(steps_from(TREE, 0), ((0, 1), (0, 2), (2, 3), (1, 4), (3, 5)))
        self.assertEqual(steps_to(TREE, 2), ((4, 1), (1, 0), (5, 3), (0, 2), (3, 2)))
        self.assertEqual(steps_from(tree=TREE, start=2), ((2, 0), (2, 3), (0, 1), (3, 5), (1, 4)))
        self.assertEqual(steps_into(TREE, (0, 2)), ((1, 0),))
        self.assertEqual(steps_into(TREE, (2, 0)), ((3, 2),))
        self.assertEqual(steps_into(TREE, (4, 1)), ())
        self.assertEqual(side_of(TREE, (0, 2)), (0, 1, 4))
        self.assertEqual(side_of(TREE, (2, 0)), (2, 3, 5))
        self.assertEqual(steps_joining(TREE, (4,), 2), ((4, 1), (1, 0), (0, 2)))
        self.assertEqual(steps_joining(TREE, (2,), 2), ())
        self.assertEqual(steps_joining(TREE, (), 2), ())
        self.assertEqual(steps_joining(tree=TREE, lot=(1, 3), goal=0), ((3, 2), (1, 0), (2, 0)))
        self.assertEqual(steps_to(tree=TREE, goal=5)[-1], (3, 5))
        self.assertEqual(neighbours_in(tree=TREE, number=0), (1, 2))
        self.assertEqual(side_of(tree=TREE, step=(5, 3)), (5,))
        self.assertEqual(steps_into(tree=TREE, step=(3, 5)), ((2, 3),))

    def test_one_cluster(self):
        tree = (((0,),), (-1,))
        self.assertEqual((neighbours_in(tree, 0), steps_to(tree, 0), steps_from(tree, 0)), ((), (), ()))
        self.assertEqual(steps_joining(tree, (0,), 0), ())

    def test_drawn(self):
        for rng in drawn(150, 80):
            tree = draw_shape(rng, many=rng.randint(1, 9))
            many = len(tree[1])
            numbers = range(many)
            near = {at: tuple(o for o in numbers if tree[1][o] == at or tree[1][at] == o) for at in numbers}
            for goal in numbers:
                self.assertEqual(neighbours_in(tree, goal), near[goal])
                ways = {at: plain_way(tree, at, goal) for at in numbers}
                to = sorted([(-len(way), way[0], way[1]) for way in ways.values() if len(way) > 1])
                self.assertEqual(steps_to(tree, goal), tuple((a, b) for _, a, b in to))
                away = sorted([(len(way), way[0], way[1]) for way in ways.values() if len(way) > 1])
                self.assertEqual(steps_from(tree, goal), tuple((b, a) for _, a, b in away))
                lot = draw_lot(rng, many)
                joining = {step for at in lot for step in zip(ways[at], ways[at][1:])}
                self.assertEqual(steps_joining(tree, lot, goal), tuple(s for s in steps_to(tree, goal) if s in joining))
            for a in numbers:
                for b in near[a]:
                    side = tuple(at for at in numbers if at != b and a in plain_way(tree, at, b))
                    self.assertEqual(side_of(tree, (a, b)), side)
                    self.assertEqual(steps_into(tree, (a, b)), tuple(sorted((o, a) for o in near[a] if o != b)))

    def test_sides_and_sequence(self):
        for rng in drawn(60, 81):
            tree = draw_shape(rng, many=rng.randint(2, 9))
            numbers = range(len(tree[1]))
            steps = [(a, b) for a in numbers for b in neighbours_in(tree, a)]
            for goal in numbers:
                to, away = steps_to(tree, goal), steps_from(tree, goal)
                for step in steps:
                    self.assertIs(step in to, goal not in side_of(tree, step))
                    self.assertIs(step in away, goal in side_of(tree, step))
                for told in (to, away):
                    for at, step in enumerate(told):
                        for other in steps_into(tree, step):
                            self.assertNotIn(other, told[at:])

    def test_long(self):
        above = (-1,) + tuple(range(59))
        tree = (tuple((at,) for at in range(60)), above)
        self.assertEqual(steps_to(tree, 59), tuple((at, at + 1) for at in range(59)))
        self.assertEqual(steps_from(tree, 59), tuple((at + 1, at) for at in reversed(range(59))))
        self.assertEqual(side_of(tree, (30, 31)), tuple(range(31)))


if __name__ == "__main__":
    unittest.main()
