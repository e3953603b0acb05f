"""Graphs: what can be reached step by step, by numbers, and what the arrows between them tell."""

from duewalk.errors import TooLarge


class Graph:
    """Nodes, by the numbers in which they were reached; each has a list of arrows (label, number of the end)."""

    def __init__(self, beginning):
        self.nodes = [beginning]
        self.numbers = {beginning: 0}
        self.arrows = []

    def number_of(self, node):
        """The number of a node, a new one if it was not reached before."""
        if node not in self.numbers:
            self.numbers[node] = len(self.nodes)
            self.nodes.append(node)
        return self.numbers[node]

    def target(self, number, label):
        """The end of the arrow with a label, which may be any value; None if there is none."""
        for told, end in self.arrows[number]:
            if told == label:
                return end
        return None


def explored(beginning, steps_from, most_nodes=None, most_steps=None):
    """The graph of what can be reached from a node; raises TooLarge() if it has more than may be.

    steps_from(node) gives a list of pairs (label, next node). A step that is not to be
    made has None as its next node: it gives no arrow, but it counts among the steps.
    The nodes are numbered by the least number of arrows that lead to them.
    """
    graph = Graph(beginning)
    many = 0
    while len(graph.arrows) < len(graph.nodes):
        steps = steps_from(graph.nodes[len(graph.arrows)])
        row = []
        for label, node in steps:
            if node is not None:
                row.append((label, graph.number_of(node)))
        graph.arrows.append(row)
        many += len(steps)
        if _is_above(many, most_steps) or _is_above(len(graph.nodes), most_nodes):
            raise TooLarge()
    return graph


def lost_times(rows):
    """A dict from the numbers from which no walk goes on for ever to the most arrows one behind the other.

    rows has for each number a list of arrows.
    """
    return round_times([[[end for _, end in row]] for row in rows])


def round_times(rows):
    """A dict from the numbers from which one who asks can end all walks to their times, found by rounds.

    rows has for each number a list that has, for each thing that may be asked there, the
    list of the ends of its answers.
    """
    before = _answers_before(rows)
    left = [[len(ends) for ends in row] for row in rows]
    times = {}
    time = 0
    ended = [number for number, row in enumerate(left) if 0 in row]
    while ended:
        times.update({number: time for number in ended})
        later = {}
        for number in ended:
            for start, index in before[number]:
                left[start][index] -= 1
                if left[start][index] == 0 and start not in times:
                    later[start] = True
        ended = list(later)
        time += 1
    return times


def time_of(ends, times):
    """The time of what is asked if its answers have some ends, None if it has none."""
    if not all([end in times for end in ends]):
        return None
    return max([times[end] + 1 for end in ends], default=0)


def distances_to(rows, goal):
    """A dict from the numbers from which arrows, one or more, lead to a goal to the least number of them."""
    before = _starts_before(rows)
    distances = {}
    distance = 0
    reached = [goal]
    while reached:
        distance += 1
        later = []
        for number in reached:
            for start in before[number]:
                if start not in distances:
                    distances[start] = distance
                    later.append(start)
        reached = later
    return distances


def shortest_way(rows, start, goal):
    """The labels of as few arrows, one or more, as can lead from a start to a goal; None if none do."""
    distances = distances_to(rows, goal)
    if start not in distances:
        return None
    labels = []
    at = start
    for left in reversed(range(distances[start])):
        nearer = [arrow for arrow in rows[at] if arrow[1] == goal or distances.get(arrow[1]) == left]
        label, at = nearer[0]
        labels.append(label)
    return labels


def way_to(rows, goal):
    """The labels of as few arrows as lead from the number 0 to a goal, none if it is the goal."""
    return [] if goal == 0 else shortest_way(rows, 0, goal)


def _is_above(many, most):
    return most is not None and many > most


def _answers_before(rows):
    """For each number, the answers that lead to it: their starts, and the indexes of what is asked."""
    before = [[] for _ in rows]
    for start, row in enumerate(rows):
        for index, ends in enumerate(row):
            for end in ends:
                before[end].append((start, index))
    return before


def _starts_before(rows):
    """For each number, the starts of the arrows that lead to it."""
    before = [[] for _ in rows]
    for start, row in enumerate(rows):
        for _, end in row:
            before[end].append(start)
    return before
