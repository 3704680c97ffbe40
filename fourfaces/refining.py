"""Which situations show the same: parted as long as what is shown, or what comes behind, parts them.

A graph is a dict from states to tuples (mark, list of states): what is seen of a state, and the states
behind it, in an order that is the same for all states with this mark.
"""

from fourfaces.answers import behind_table


def numbered(marks):
    """For each key of a dict a number, the same for equal marks."""
    numbers = {}
    for state in marks:
        numbers.setdefault(marks[state], len(numbers))
    return {state: numbers[marks[state]] for state in marks}


def how_many_numbers(numbers):
    """How many different numbers a dict has."""
    return len(set(list(numbers.values())))


def classes(graph):
    """For each state of a graph a number, the same for two states that show the same."""
    numbers = numbered({state: graph[state][0] for state in graph})
    while True:
        marks = {}
        for state in graph:
            marks[state] = (numbers[state], tuple([numbers[later] for later in graph[state][1]]))
        finer = numbered(marks)
        if how_many_numbers(finer) == how_many_numbers(numbers):
            return numbers
        numbers = finer


def goal_by(points, point, outcome):
    """The goal of a do by an outcome."""
    return [goal for end, goal in points[point][2] if end == outcome][0]


def graph_of(machine, seeds, tag):
    """The graph of all that comes behind some situations, its states being tuples (tag, point, answers)."""
    points, table, graph = machine.points(), behind_table(machine.sheet), {}
    left = list(seeds)
    while left:
        point, answers = left.pop()
        if (tag, point, answers) in graph:
            continue
        move, later = machine.move(point, answers), []
        if move[0] == "do":
            for outcome, goal in points[move[2]][2]:
                later.extend([(goal, some) for some in table[answers][(move[1], outcome)]])
        graph[(tag, point, answers)] = ((move[:2], answers), [(tag, goal, some) for goal, some in later])
        left.extend(later)
    return graph
