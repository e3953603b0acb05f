"""Graphs: what can be reached step by step, by numbers, and what the arrows between them tell."""

from duewalk.errors import TooLarge


class Graph:
    """Nodes, by the numbers in which they were reached; each has a list of arrows (label, number of the end)."""

    def __init__(self, beginning):
        self.nodes = [beginning]
        self.numbers = {beginning: 0}
        self.arrows = []

    def number_of(self, node):
        """The number of a node, a new one if it was not reached before."""
        if node not in self.numbers:
            self.numbers[node] = len(self.nodes)
            self.nodes.append(node)
        return self.numbers[node]

    def target(self, number, label):
        """The end of the arrow with a label, which may be any value; None if there is none."""
        for told, end in self.arrows[number]:
            if told == label:
                return end
        return None


def explored(beginning, steps_from, most_nodes, most_steps):
    """The graph of what can be reached from a node; raises TooLarge().

    steps_from(node) gives a list of pairs (label, next node). A step that is not to be
    made has None as its next node: it gives no arrow, but it counts among the steps.
    """
    graph = Graph(beginning)
    many = 0
    while len(graph.arrows) < len(graph.nodes):
        steps = steps_from(graph.nodes[len(graph.arrows)])
        row = []
        for label, node in steps:
            if node is not None:
                row.append((label, graph.number_of(node)))
        graph.arrows.append(row)
        many += len(steps)
        if many > most_steps or len(graph.nodes) > most_nodes:
            raise TooLarge()
    return graph


def lost_times(rows):
    """A dict from the numbers from which no walk goes on for ever to the most arrows one behind the other.

    rows has for each number a list of arrows.
    """
    before = _starts_before(rows)
    left = [len(row) for row in rows]
    times = {}
    time = 0
    ended = [number for number, row in enumerate(rows) if not row]
    while ended:
        later = []
        for number in ended:
            times[number] = time
            for start in before[number]:
                left[start] -= 1
                if left[start] == 0:
                    later.append(start)
        ended = later
        time += 1
    return times


def distances_to(rows, goal):
    """A dict from the numbers from which arrows, one or more, lead to a goal to the least number of them."""
    before = _starts_before(rows)
    distances = {}
    distance = 0
    reached = [goal]
    while reached:
        distance += 1
        later = []
        for number in reached:
            for start in before[number]:
                if start not in distances:
                    distances[start] = distance
                    later.append(start)
        reached = later
    return distances


def shortest_way(rows, start, goal):
    """The labels of as few arrows, one or more, as can lead from a start to a goal; None if none do."""
    distances = distances_to(rows, goal)
    if start not in distances:
        return None
    labels = []
    at = start
    for left in reversed(range(distances[start])):
        nearer = [arrow for arrow in rows[at] if arrow[1] == goal or distances.get(arrow[1]) == left]
        label, at = nearer[0]
        labels.append(label)
    return labels


def _starts_before(rows):
    """For each number, the starts of the arrows that lead to it."""
    before = [[] for _ in rows]
    for start, row in enumerate(rows):
        for _, end in row:
            before[end].append(start)
    return before
