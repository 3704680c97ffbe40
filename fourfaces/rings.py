"""Rings: roads through a machine, rings in it, their doors, and crossings."""

from fourfaces.graphs import way_to
from fourfaces.machines import is_goal


def are_linked(machine, points):
    """Whether a list has points of a machine, each next one behind the former, one at least."""
    if not isinstance(points, list) or not points or not all([is_goal(point, len(machine)) for point in points]):
        return False
    return all([points[at + 1] in machine.behind(points[at]) for at in range(len(points) - 1)])


def is_road(machine, thing):
    """Whether a thing is a road: a list of points from the begin on."""
    return are_linked(machine, thing) and thing[0] == 0


def is_ring(machine, thing):
    """Whether a thing is a ring: a list of different points that leads back to its first one."""
    if not are_linked(machine, thing) or len(set(thing)) != len(thing):
        return False
    return thing[0] in machine.behind(thing[-1])


def is_road_to(machine, ring, thing):
    """Whether a thing is a road that ends at a point of a ring and has no other one of it."""
    if not is_road(machine, thing) or thing[-1] not in ring:
        return False
    return all([point == thing[-1] or point not in ring for point in thing])


def is_crossing(machine, thing):
    """Whether a thing is a crossing: a ring, and two roads to unlike points of it."""
    if not isinstance(thing, tuple) or len(thing) != 3 or not is_ring(machine, thing[0]):
        return False
    if not is_road_to(machine, thing[0], thing[1]) or not is_road_to(machine, thing[0], thing[2]):
        return False
    return thing[1][-1] != thing[2][-1]


def door_road(machine, ring, point):
    """A shortest road to a point of a ring that has no other one of it, or None if the point is no door."""
    if point not in ring or (0 in ring and point != 0):
        return None
    goals = []
    for ahead in range(len(machine)):
        goals.append([goal for goal in machine.behind(ahead) if goal == point or goal not in ring])
    return way_to(goals, [0], lambda end: end == point)


def doors(machine, ring):
    """The ascending list of the doors of a ring."""
    return [point for point in sorted(ring) if door_road(machine, ring, point) is not None]


def passed(machine):
    """For each point the ascending list of the points that all roads to it have."""
    many = len(machine)
    # a number stands for a lot of points, its bit of a place being the point
    lots = [1] + [(1 << many) - 1 for _ in range(1, many)]
    ahead = [[] for _ in range(many)]
    for point in range(many):
        for goal in machine.behind(point):
            ahead[goal].append(point)
    changing = True
    while changing:
        changing = False
        for point in range(1, many):
            lot = (1 << many) - 1
            for former in ahead[point]:
                lot &= lots[former]
            lot |= 1 << point
            if lot != lots[point]:
                lots[point] = lot
                changing = True
    return [[one for one in range(many) if lot >> one & 1] for lot in lots]


def leads_back(machine):
    """The ascending list of the tuples (point, goal) of a point and one behind it that all roads to it have."""
    there = passed(machine)
    edges = [(point, goal) for point in range(len(machine)) for goal in machine.behind(point)]
    return sorted(set([(point, goal) for point, goal in edges if goal in there[point]]))


def goals_on(machine):
    """For each point the list of those behind it to which it does not lead back."""
    back = {edge: True for edge in leads_back(machine)}
    found = []
    for point in range(len(machine)):
        found.append([goal for goal in machine.behind(point) if (point, goal) not in back])
    return found


def in_row(goals):
    """The points in an order in which each one stands behind all that lead to it, as far as there is one."""
    open_ends = [0 for _ in goals]
    for some in goals:
        for goal in some:
            open_ends[goal] += 1
    order, at = [point for point, many in enumerate(open_ends) if many == 0], 0
    while at < len(order):
        for goal in goals[order[at]]:
            open_ends[goal] -= 1
            if open_ends[goal] == 0:
                order.append(goal)
        at += 1
    return order


def crossing(machine):
    """A crossing of a machine, or None if there is none."""
    goals = goals_on(machine)
    order = in_row(goals)
    if len(order) == len(machine):
        return None
    # each point that is left has one ahead of it that is left, so going back from them comes to a ring
    left = [point for point in range(len(machine)) if point not in order]
    chain = [left[0]]
    while chain.count(chain[-1]) < 2:
        chain.append([point for point in left if chain[-1] in goals[point]][0])
    ring = chain[chain.index(chain[-1]) + 1:][::-1]
    one, other = doors(machine, ring)[:2]
    return (ring, door_road(machine, ring, one), door_road(machine, ring, other))
