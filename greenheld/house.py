"""A house: a world, the deeds that are done in it, and those that are taken back."""

from greenheld.errors import NothingDone, copied
from greenheld.flows import carried
from greenheld.world import after, cars_there, judge_world, new_world, orders_now


class House:
    """Keeps deeds, and for each of them the world behind it."""

    def __init__(self, town, state):
        self._worlds = [new_world(town, state)]
        self._deeds = []
        self._undone = []

    def world(self):
        """The world behind all deeds that stand done."""
        return self._worlds[-1]

    def deeds(self):
        """The list of the deeds that stand done."""
        return copied(self._deeds)

    def do(self, deed):
        """Does a deed; returns how many stand done."""
        self._worlds.append(after(self.world(), deed))
        self._deeds.append(copied(deed))
        self._undone = []
        return len(self._deeds)

    def undo(self):
        """Takes the last deed back; returns how many stand done."""
        if not self._deeds:
            raise NothingDone()
        self._undone.append((self._deeds.pop(), self._worlds.pop()))
        return len(self._deeds)

    def redo(self):
        """Does the deed that was taken back last; returns how many stand done."""
        if not self._undone:
            raise NothingDone()
        deed, world = self._undone.pop()
        self._deeds.append(deed)
        self._worlds.append(world)
        return len(self._deeds)

    def twin(self):
        """A house that stands alike, and goes its own way."""
        first = self._worlds[0]
        other = House(first["town"], first["state"])
        other._worlds = list(self._worlds)
        other._deeds = list(self._deeds)
        other._undone = list(self._undone)
        return other

    def state(self):
        """How many cars wait in each queue."""
        return self.world()["state"]

    def look(self):
        """How many cars the detectors take to be there."""
        return self.world()["look"]

    def stand(self):
        """The tuple (frames, cars that came, cars that are gone, cars that are there)."""
        world = self.world()
        return (world["frame"], world["came"], world["gone"], cars_there(world))

    def modes(self):
        """The words of all modes."""
        return tuple([mode[0] for mode in self.world()["modes"]])

    def shown(self):
        """The greens that each crossing has shown last."""
        return tuple([tale[-1] if tale else () for tale in self.world()["tales"]])

    def orders(self):
        """The choice of the next frame."""
        return orders_now(self.world())

    def safe(self):
        """Whether all tales are right and no car is lost."""
        return judge_world(self.world()) is None

    def holds(self, counts):
        """Whether the town carries these counts."""
        return carried(self.world()["town"], counts)[0] == "carried"
