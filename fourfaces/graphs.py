"""Graphs: how far their places are from ends, how many ways there are, and which ways are shortest.

A graph is a dict from places to the lists of those behind them.
"""

from fourfaces.machines import met


def turned_round(goals):
    """The graph whose ways lead back."""
    ahead = {place: [] for place in goals}
    for place in goals:
        for goal in goals[place]:
            ahead[goal].append(place)
    return ahead


def ways_out(goals, ends):
    """How many places more it takes at least to come to one of the ends, for each place that comes to one."""
    ahead, order, at = turned_round(goals), list(ends), 0
    found = {place: 0 for place in order}
    while at < len(order):
        for place in ahead[order[at]]:
            if place not in found:
                found[place] = found[order[at]] + 1
                order.append(place)
        at += 1
    return found


def kept_on(goals, some):
    """The part of a graph with some of its places alone."""
    return {place: [goal for goal in goals[place] if goal in some] for place in goals if place in some}


def reached_part(goals, first):
    """The part of a graph to which ways lead from a place."""
    return {place: goals[place] for place in met(goals, first)}


def leading_part(goals, first, ends):
    """The part of a graph on ways from a place to one of the ends; it is empty if there are none."""
    kept = kept_on(goals, ways_out(goals, ends))
    return reached_part(kept, first) if first in kept else {}


def how_many_ways(goals, first, ends):
    """How many ways lead from a place to one of the ends, or None if there is no end of them."""
    part, is_end = leading_part(goals, first, ends), {place: True for place in ends}
    ahead = turned_round(part)
    waiting = {place: len(part[place]) for place in part}
    done, many, at = [place for place in part if waiting[place] == 0], {first: 0}, 0
    while at < len(done):
        place = done[at]
        many[place] = sum([many[goal] for goal in part[place]]) + (1 if place in is_end else 0)
        for former in ahead[place]:
            waiting[former] -= 1
            if waiting[former] == 0:
                done.append(former)
        at += 1
    # what waits for ever stands in a ring, or ahead of one
    return many[first] if len(done) == len(part) else None


def way_to(goals, starts, is_wanted):
    """A shortest way from one of the starts to a place that is wanted, or None if there is none."""
    order, at = list(starts), 0
    former = {place: None for place in order}
    while at < len(order):
        if is_wanted(order[at]):
            return way_back(former, order[at])
        for goal in goals[order[at]]:
            if goal not in former:
                former[goal] = order[at]
                order.append(goal)
        at += 1
    return None


def way_back(former, place):
    """The way to a place, former having for each one the place ahead of it, None for a first one."""
    way = [place]
    while former[way[-1]] is not None:
        way.append(former[way[-1]])
    return way[::-1]
