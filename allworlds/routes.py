"""Steps of trees: pairs of clusters, one of them right above the other one."""

from allworlds.trees import below_lot, children_in, cluster_way


def neighbours_in(tree, number):
    """The lot of the clusters right above and right below a cluster."""
    above = tree[1][number]
    below = children_in(tree, number)
    return below if above == -1 else (above,) + below


def next_to(tree, goal):
    """For each other cluster its distance to one, and the next one on the way."""
    found = {goal: (0, goal)}
    rim = [goal]
    while rim:
        further = []
        for number in rim:
            for near in neighbours_in(tree, number):
                if near not in found:
                    found[near] = (found[number][0] + 1, number)
                    further.append(near)
        rim = further
    del found[goal]
    return found


def steps_to(tree, goal):
    """The steps from all other clusters towards one, those from the farthest first."""
    found = sorted([(-far, number, near) for number, (far, near) in next_to(tree, goal).items()])
    return tuple([(number, near) for _, number, near in found])


def steps_from(tree, start):
    """The steps to all other clusters away from one, those to the nearest first."""
    found = sorted([(far, number, near) for number, (far, near) in next_to(tree, start).items()])
    return tuple([(near, number) for _, number, near in found])


def steps_into(tree, step):
    """The steps to the first cluster of a step from its neighbours but the second one."""
    return tuple([(near, step[0]) for near in neighbours_in(tree, step[0]) if near != step[1]])


def side_of(tree, step):
    """The lot of the clusters whose way to the second cluster of a step goes over the first one."""
    start, goal = step
    if tree[1][start] == goal:
        return below_lot(tree, start)
    beyond = below_lot(tree, goal)
    return tuple([number for number in range(len(tree[1])) if number not in beyond])


def steps_joining(tree, lot, goal):
    """The steps towards a cluster that are on the way there from some cluster of a lot."""
    on_way = {number: True for start in lot for number in cluster_way(tree, start, goal)}
    return tuple([step for step in steps_to(tree, goal) if step[0] in on_way])
