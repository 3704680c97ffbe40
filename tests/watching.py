"""Beginnings, logs and torn logs, worked out in the plainest way, to compare with."""

import oracle


def beginnings(ground, machine, most):
    """All beginnings with at most so many points: a dict from tuples of points to the sets of answers there.

    Each trace is gone along by itself, point for point.
    """
    found, level = {}, {((0,), answers) for answers in ground.can}
    for _ in range(most):
        later = set()
        for points, answers in level:
            found.setdefault(points, set()).add(answers)
            row = machine.points()[points[-1]]
            if row[0] == "mark":
                later.add((points + (row[2],), answers))
            elif row[0] == "ask":
                goal = row[2] if oracle.answer(machine.sheet, answers, row[1]) else row[3]
                later.add((points + (goal,), answers))
            elif row[0] == "round":
                later.add((points + points[-1:], answers))
            elif row[0] == "do":
                for outcome, goal in row[2]:
                    later |= {(points + (goal,), other) for other in ground.behind[answers, row[1], outcome]}
        level = later
    return found


def is_run(machine, points):
    return machine.points()[points[-1]][0] == "out"


def runs(ground, machine, most):
    """All runs with at most so many points, shorter ones first."""
    found = [list(points) for points in beginnings(ground, machine, most) if is_run(machine, points)]
    return sorted(found, key=lambda points: (len(points), points))


def log(machine, watch, points):
    rows = [machine.points()[point] for point in points[:-1]]
    return [row[1] for row in rows if row[0] == "mark" and row[1] in watch]


def fits(torn, words):
    """Whether words come of a torn log, told entry by entry."""
    if not torn:
        return not words
    if torn[0] == "*":
        return any(fits(torn[1:], words[many:]) for many in range(len(words) + 1))
    return bool(words) and torn[0] in ("?", words[0]) and fits(torn[1:], words[1:])


def tells(machine, watch, some, together):
    """Whether no two of some lists of points have the same log and are put together by a key."""
    seen = set()
    for points in some:
        key = (together(points), tuple(log(machine, watch, points)))
        if key in seen:
            return False
        seen.add(key)
    return True


def closed_sides(nodes, after, writes):
    """The least closed list of sides."""
    found, left = set(), []
    for node in nodes:
        some = after(node)
        left += [(one, other) for one in some for other in some if one < other]
    while left:
        side = tuple(sorted(left.pop()))
        if side not in found:
            found.add(side)
            left += behind_side(side, after, writes)
    return sorted(found)


def behind_side(side, after, writes):
    one, other = side
    first, second = writes(one), writes(other)
    if first is None and second is None:
        return [(goal, other) for goal in after(one)] + [(one, goal) for goal in after(other)]
    if first is None:
        return [(goal, other) for goal in after(one)]
    if second is None:
        return [(one, goal) for goal in after(other)]
    return [(a, b) for a in after(one) for b in after(other)] if first == second else []
