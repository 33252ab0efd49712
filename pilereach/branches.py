"""Edges, found by the node at which they begin and by their letter."""


def branches(edges):
    """For each node a dict: for each letter the goals, in the edges' order."""
    found = {}
    for node, letter, goal in edges:
        if node not in found:
            found[node] = {}
        goals = found[node]
        if letter in goals:
            goals[letter].append(goal)
        else:
            goals[letter] = [goal]
    return found
