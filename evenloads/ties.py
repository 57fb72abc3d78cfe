"""Tight sets of servers, and the ties of a plan: rings of them, and plans without any."""

from evenloads.basics import least_count
from evenloads.best import best_loads, lightest
from evenloads.checks import check_server, check_servers, check_yard
from evenloads.flows import chain_to, reached
from evenloads.leveling import leveled
from evenloads.plans import Plan, check_plan
from evenloads.ratios import Ratio, all_whole_parts, common_bottom, sum_of
from evenloads.spans import room_at


def tight_set(yard, server):
    """The least tight set that contains a server, a sorted list."""
    check_yard(yard)
    check_server(yard, server)
    flows = [flow for _, servers, _, flow in leveled(yard) if server in servers]
    return flows[0].ahead_of([server])


def is_tight(yard, servers):
    """Whether the works of all tasks all of whose least places belong to a set of servers sum to its room."""
    check_yard(yard)
    check_servers(yard, servers)
    loads = best_loads(yard)
    works = [yard.work(task) for task in yard.tasks()
             if all([place in servers for place in lightest(yard, task, loads)])]
    return sum_of(works) == room_at(yard, servers, loads)


def is_ring(plan, value):
    """Whether any value is a list that is a ring of ties of a plan."""
    check_plan(plan)
    if not isinstance(value, (list, tuple)) or len(value) < 4 or len(value) % 2 == 1:
        return False
    ties = plan.ties()
    if not all([isinstance(tie, tuple) and tie in ties for tie in value]):
        return False
    return len(set(value)) == len(value) and all([is_joined(value, at) for at in range(len(value))])


def is_joined(ties, at):
    """Whether a tie has the task of the next one, or in turns its server; the first one follows the last one."""
    following = at + 1 if at + 1 < len(ties) else 0
    return ties[at][at % 2] == ties[following][at % 2]


def ring(plan):
    """A ring of ties of a plan; None if the plan is thin."""
    check_plan(plan)
    forest = Forest(plan.yard)
    for task, server in plan.ties():
        found = forest.closed_by(task, server)
        if found is not None:
            return found
        forest.put(task, server, 1)
    return None


def thin(plan):
    """A thin plan with the same loads."""
    check_plan(plan)
    amounts = plan.amounts()
    unit = common_bottom(list(amounts.values()))
    forest = Forest(plan.yard)
    for (task, server), part in all_whole_parts(amounts, unit).items():
        found = forest.closed_by(task, server)
        forest.put(task, server, part)
        if found is not None:
            forest.cut(found)
    return Plan(plan.yard, forest.amounts(unit))


class Forest:
    """Ties without a ring, and how much each of them gives, in whole numbers."""

    def __init__(self, yard):
        self._held = {server: {} for server in yard.servers()}
        self._places = {task: {} for task in yard.tasks()}

    def closed_by(self, task, server):
        """The ring that a tie more, which is its first one, would close; None if it closes none."""
        found = reached(list(self._places[task]), self._held, self._places, task, [server])
        if server not in found:
            return None
        chain = chain_to(found, server)
        ties = [(task, server), (task, chain[0][1])]
        for other, start, goal in chain:
            ties.append((other, start))
            ties.append((other, goal))
        return ties

    def put(self, task, server, part):
        """Add a tie that gives so much."""
        self._held[server][task] = part
        self._places[task][server] = True

    def cut(self, ties):
        """Shift as much as possible around the only ring, to every other tie of it; what gives nothing is no tie."""
        least = least_count([self._held[server][task] for task, server in ties[1::2]])
        for task, server in ties[::2]:
            self._held[server][task] = self._held[server][task] + least
        for task, server in ties[1::2]:
            self._held[server][task] = self._held[server][task] - least
            if self._held[server][task] == 0:
                del self._held[server][task]
                del self._places[task][server]

    def amounts(self, unit):
        """The dict of the amounts, as a plan takes it."""
        return {(task, server): Ratio(part, unit) for server, held in self._held.items()
                for task, part in held.items()}
