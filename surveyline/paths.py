"""Shortest paths."""

from surveyline.graph import NOTHING, OBJECT


# The first path from these values (those of the slots, or of an entry's fields) to
# the goal, or None. Paths are made in their order, so the first one to come to a
# value is the first one to it, and a way on from a later one can't be the first.
def first_path(graph, values, goal):
    paths = {}
    waiting = [([], values)]
    place = 0
    while place < len(waiting) and goal not in paths:
        way = waiting[place]
        place += 1
        for index, value in enumerate(way[1]):
            if value[0] == NOTHING or value in paths:
                continue
            paths[value] = way[0] + [index]
            if value[0] == OBJECT:
                waiting.append((paths[value], graph.fields[value[1]]))
    return paths.get(goal)
