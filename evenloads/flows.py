"""Works that are spread over places and shifted along chains of moves, in whole numbers of one small unit."""

from evenloads.basics import least_count, sorted_names
from evenloads.ratios import Ratio


class Flow:
    """How much of each task lies where, and how much room is left; unlike a plan, it is filled and shifted."""

    def __init__(self, places, rooms, unit):
        self._places = places
        # Only servers with room are kept here.
        self._free = {server: rooms[server] for server in rooms if rooms[server] > 0}
        self._unit = unit
        self._held = {server: {} for server in rooms}

    def fill(self, works):
        """Place as much of all works as there is room for; the tasks of which something is left."""
        left = []
        for task in works:
            if self._place(task, works[task]) > 0:
                left.append(task)
        return left

    def closure(self, tasks):
        """The sorted list of the servers to which chains lead from the places of some tasks."""
        starts = {}
        for task in tasks:
            for place in self._places[task]:
                starts[place] = True
        return self.ahead_of(list(starts))

    def ahead_of(self, starts):
        """The sorted list of some servers and of those to which chains lead from them."""
        return sorted_names(reached(starts, self._held, self._places))

    def behind(self, task):
        """The sorted list of the servers that hold a task, and of those from which chains lead to them."""
        found = {server: True for server in self._held if task in self._held[server]}
        further = list(found)
        while len(further) > 0:
            further = [server for server in self._held if server not in found and self._leads_to(server, found)]
            for server in further:
                found[server] = True
        return sorted_names(found)

    def draw_in(self, task, server):
        """Bring as much of a task to one of its places as the others can make room for.

        Return the sorted list of the servers that keep it from more.
        """
        while True:
            found = reached([server], self._held, self._places, task)
            others = [place for place in found if place != server and task in self._held[place]]
            if len(others) == 0:
                return sorted_names(found)
            chain = chain_to(found, others[0])
            self._shift(chain + [(task, others[0], server)])

    def drive_out(self, task, server):
        """Bring as much of a task from one of its places to the other ones as the others can make room for.

        Return the sorted list of the servers that keep it from more.
        """
        others = [place for place in self._places[task] if place != server]
        while True:
            found = reached(others, self._held, self._places, task)
            if server not in found or task not in self._held[server]:
                return sorted_names(found)
            chain = chain_to(found, server)
            self._shift(chain + [(task, server, chain[0][1])])

    def amount_at(self, task, server):
        """How much of a task lies at a server, a Ratio."""
        return Ratio(self._held[server].get(task, 0), self._unit)

    def amounts(self):
        """The dict of the amounts above 0, from tuples (task, server) to Ratios."""
        return {(task, server): self.amount_at(task, server) for server in self._held for task in self._held[server]}

    def _leads_to(self, server, goals):
        """Whether a task that a server holds has one of these servers among its places."""
        return any([place in goals for task in self._held[server] for place in self._places[task]])

    def _place(self, task, work):
        """Place as much of a work as there is room for, and tell what is left."""
        left = work
        while left > 0:
            found = reached(self._places[task], self._held, self._places, None, self._free)
            goals = [server for server in found if server in self._free]
            if len(goals) == 0:
                return left
            chain = chain_to(found, goals[0])
            amount = least_count([left, self._free[goals[0]]] + given_along(chain, self._held))
            shift(chain, amount, self._held)
            hold_more(task, chain[0][1] if len(chain) > 0 else goals[0], amount, self._held)
            self._take(goals[0], amount)
            left = left - amount
        return 0

    def _take(self, server, amount):
        """Take an amount from the room that is left at a server."""
        self._free[server] = self._free[server] - amount
        if self._free[server] == 0:
            del self._free[server]

    def _shift(self, chain):
        """Shift as much as possible along a chain that comes back to where it starts."""
        shift(chain, least_count(given_along(chain, self._held)), self._held)


def given_along(chain, held):
    """How much each move of a chain could take along."""
    return [held[start][task] for task, start, _ in chain]


def shift(chain, amount, held):
    """Shift an amount along a chain."""
    for task, start, goal in chain:
        hold_more(task, start, -amount, held)
        hold_more(task, goal, amount, held)


def hold_more(task, server, amount, held):
    """Change how much of a task is held by a server; what is 0 is not kept, as it makes no move possible."""
    there = held[server]
    there[task] = there.get(task, 0) + amount
    if there[task] == 0:
        del there[task]


def reached(starts, held, places, barred=None, wanted=()):
    """The dict of the servers to which chains lead from some servers, the nearest ones first.

    Tasks move from where they are held to any of their places; the barred one does not. Each server has the tuple
    (task, start) of the last move of a shortest chain to it; the starts have None. The search ends where it comes to a
    server that is wanted.
    """
    found = {server: None for server in starts}
    if any([server in wanted for server in starts]):
        return found
    # A task reaches all its places at once, so that it is asked only at the first server that holds it.
    asked = {barred: True}
    queue = list(starts)
    at = 0
    while at < len(queue):
        server = queue[at]
        at = at + 1
        for task in held[server]:
            if task not in asked:
                asked[task] = True
                for goal in places[task]:
                    if goal not in found:
                        found[goal] = (task, server)
                        queue.append(goal)
                        if goal in wanted:
                            return found
    return found


def chain_to(found, goal):
    """The shortest chain to one of the servers that were reached, a list of tuples (task, start, goal)."""
    chain = []
    server = goal
    while found[server] is not None:
        task, start = found[server]
        chain.append((task, start, server))
        server = start
    return chain[::-1]
