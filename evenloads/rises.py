"""Rises: how far the same servers bear what a task's work grows by."""

from evenloads.best import best_loads
from evenloads.leveling import even_flow
from evenloads.ratios import least_of, sum_of


class Rise:
    """The risers of a task at its work in a yard, whose loads grow together while all others stay."""

    def __init__(self, yard, task, risers):
        loads = best_loads(yard)
        self._yard = yard
        self._task = task
        self._risers = risers
        self._speed = yard.speed_of(risers)
        self._load = loads[risers[0]]
        self._higher = [load for load in loads.values() if load.compare(self._load) > 0]
        self._places = places_among(yard, risers, loads)

    def end(self):
        """The next work at which others may rise; None if there is none.

        There more servers have this load, or some of the risers have all that they can bear.
        """
        growth = self._most()
        while growth is not None:
            barring = self._barring(growth)
            if barring is None:
                return self._yard.work(self._task) + growth
            # Whatever bars some growth bars none up to where it is just full.
            growth = self._growth_within(barring)
        return None

    def _most(self):
        """A growth beyond which the risers cannot stay the same; None if they can for ever."""
        if len(self._higher) > 0:
            return (least_of(self._higher) - self._load) * self._speed
        if len(self._places[self._task]) < len(self._risers):
            return self._growth_within(self._places[self._task])
        return None

    def _barring(self, growth):
        """Servers whose tasks are too much for them when the work has grown so far; None if there are none."""
        later = self._yard.with_work(self._task, self._yard.work(self._task) + growth)
        load = self._load + growth.over(self._speed)
        flow, left = even_flow(later, self._places, {server: load for server in self._risers})
        return None if len(left) == 0 else flow.closure(left)

    def _growth_within(self, servers):
        """The growth at which some of the risers, to which the task is confined, have just as much as they can bear.

        With it their tasks' work grows by as much, but what they can bear grows by their share of the speed only.
        """
        works = [self._yard.work(task) for task, places in self._places.items()
                 if all([place in servers for place in places])]
        speed = self._yard.speed_of(servers)
        spare = self._load * speed - sum_of(works)
        return spare.over(self._speed - speed) * self._speed


def places_among(yard, risers, loads):
    """The dict from the tasks that no other servers can bear, once the loads of the risers have grown, to their places.

    Other servers with the load that the risers had at first, or with a lesser one, have the lesser load then.
    """
    found = {}
    for task in yard.tasks():
        near = [place for place in yard.places(task) if loads[place].compare(loads[risers[0]]) <= 0]
        if len(near) > 0 and all([place in risers for place in near]):
            found[task] = near
    return found
