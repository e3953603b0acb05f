"""Watches: walkers with a store that are followed while somebody requests."""

from duewalk.errors import BadMove, BadRequest, NoDeed
from duewalk.needs import moves_with, needs_of, units_behind
from duewalk.stocked import stocked_graph, toil_rows


class Watch:
    """A position and units of a store, with the steps that led there."""

    def __init__(self, site, starts, asking, size):
        """Raises BadStarts(), UnknownPlace(place), then TooLarge()."""
        graph = stocked_graph(site, starts, asking)
        self._positions = graph.nodes
        self._rows = toil_rows(asking, graph)
        self._size = size
        self._needs = needs_of(self._rows, size)
        # The number of the position, the units and the toil, at the beginning and behind each step.
        self._past = [(0, size, 0)]

    def position(self):
        """The position of now."""
        number, _, _ = self._past[-1]
        return self._positions[number]

    def units(self):
        """The units of now."""
        _, units, _ = self._past[-1]
        return units

    def deeds(self):
        """The number of steps that are not taken back."""
        return len(self._past) - 1

    def toil(self):
        """The toil of the steps that are not taken back, added up."""
        _, _, toil = self._past[-1]
        return toil

    def step(self, request, move):
        """Makes a step; raises BadRequest(0), then BadMove(0), of any values."""
        _, units, toil = self._past[-1]
        for told, end, cost in self._answers(request):
            left = units_behind(units, cost, self._size)
            if told == move and left >= 0:
                self._past.append((end, left, toil + cost))
                return
        raise BadMove(0)

    def is_won(self):
        """Whether the stocked position of now is won."""
        number, units, _ = self._past[-1]
        need = self._needs[number]
        return need is not None and units >= need

    def advice(self, request):
        """A move that is not bad and leads to where it is won, None if there is none; raises BadRequest(0)."""
        moves = moves_with(self._answers(request), self._needs, self._size, self.units())
        return moves[0] if moves else None

    def back(self):
        """Takes back the last step that was not taken back; raises NoDeed()."""
        if self.deeds() == 0:
            raise NoDeed()
        self._past.pop()

    def _answers(self, request):
        """The moves that have no bad step but for the store; raises BadRequest(0) if any value may not be requested."""
        number, _, _ = self._past[-1]
        row = self._rows[number]
        # A list or a dict is no key that can be looked up.
        if request not in list(row):
            raise BadRequest(0)
        return row[request]
