"""Yards: servers with their speeds, and tasks with their works and places."""

from evenloads.basics import is_integer, is_name, is_name_list, sorted_names
from evenloads.errors import InvalidName, InvalidServers, InvalidSpeed, InvalidTask, InvalidTasks
from evenloads.errors import InvalidWork, InvalidYard, LastPlace, OtherServers, PlaceTaken, ServerTaken
from evenloads.errors import TaskTaken, TooMany, UnknownPlace, UnknownServer, UnknownTask
from evenloads.ratios import Ratio, is_amount, sum_of


class Yard:
    """Servers with a speed each, and tasks with a work and places each; it never changes."""

    MOST_SERVERS = 12
    MOST_TASKS = 24
    MOST_SPEED = 1000

    def __init__(self, speeds, tasks=None):
        given = {} if tasks is None else tasks
        check_speeds(speeds)
        check_tasks(given, speeds)
        if len(speeds) > Yard.MOST_SERVERS:
            raise TooMany("servers", Yard.MOST_SERVERS)
        if len(given) > Yard.MOST_TASKS:
            raise TooMany("tasks", Yard.MOST_TASKS)
        # Sorted once here, so that every dict and list made of these is sorted, too.
        self._speeds = {server: speeds[server] for server in sorted_names(speeds)}
        names = sorted_names(given)
        self._works = {task: Ratio.of(given[task][0]) for task in names}
        self._places = {task: tuple(sorted_names(given[task][1])) for task in names}
        # What plans ask most often: whether a server is a place of a task.
        self._pairs = {(task, place): True for task in names for place in self._places[task]}

    @staticmethod
    def jobs(servers, **places):
        """The whole yard with these servers and with jobs that have these places."""
        if not is_name_list(servers) or len(servers) == 0:
            raise InvalidServers(servers)
        for job in sorted_names(places):
            if not is_name(job) or not is_set_of(places[job], servers):
                raise InvalidTask(job)
        return Yard({server: 1 for server in servers}, {job: (1, places[job]) for job in places})

    def servers(self):
        """The sorted list of the servers."""
        return list(self._speeds)

    def tasks(self):
        """The sorted list of the tasks."""
        return list(self._works)

    def speed(self, server):
        """The speed of a server, an INTEGER."""
        self._check_server(server)
        return self._speeds[server]

    def work(self, task):
        """The work of a task, a Ratio."""
        self._check_task(task)
        return self._works[task]

    def places(self, task):
        """The sorted list of the places of a task."""
        self._check_task(task)
        return list(self._places[task])

    @property
    def total(self):
        """The sum of all works, a Ratio."""
        return sum_of(list(self._works.values()))

    @property
    def is_whole(self):
        """Whether all works and all speeds are 1."""
        works = list(self._works.values())
        speeds = list(self._speeds.values())
        return all([work == Ratio(1) for work in works]) and all([speed == 1 for speed in speeds])

    def __len__(self):
        return len(self._works)

    def __contains__(self, x):
        return isinstance(x, str) and x in self._works

    def __eq__(self, other):
        return (isinstance(other, Yard) and self._speeds == other._speeds
                and self._works == other._works and self._places == other._places)

    def confined(self, servers):
        """The sorted list of the tasks all of whose places belong to a set of servers."""
        self._check_set(servers)
        return [task for task, places in self._places.items() if all([place in servers for place in places])]

    def weight(self, servers):
        """The sum of the works of the tasks that are confined to a set of servers, a Ratio."""
        return sum_of([self._works[task] for task in self.confined(servers)])

    def speed_of(self, servers):
        """The sum of the speeds of a set of servers, an INTEGER."""
        self._check_set(servers)
        return sum([self._speeds[server] for server in servers])

    def density(self, servers):
        """The weight of a set of servers divided by its speed, a Ratio."""
        return self.weight(servers).over(self.speed_of(servers))

    def __add__(self, other):
        if not is_named_task(other, self._speeds):
            raise InvalidTasks(other)
        name, work, places = other
        if name in self:
            raise TaskTaken(name)
        tasks = self._given()
        return Yard(self._speeds, {**tasks, name: (work, places)})

    def __sub__(self, other):
        if other not in self:
            raise UnknownTask(other)
        tasks = self._given()
        return Yard(self._speeds, {task: tasks[task] for task in tasks if task != other})

    def __or__(self, other):
        if not isinstance(other, Yard):
            raise InvalidYard(other)
        if self._speeds != other._speeds:
            raise OtherServers(self, other)
        for task in self._works:
            if task in other._works:
                raise TaskTaken(task)
        mine = self._given()
        theirs = other._given()
        return Yard(self._speeds, {**mine, **theirs})

    def with_work(self, task, work):
        """The yard in which a task has this work."""
        self._check_task(task)
        if not is_amount(work):
            raise InvalidWork(work)
        return self._with_task(task, work, self._places[task])

    def with_place(self, task, server):
        """The yard in which a task has a place more."""
        self._check_task(task)
        self._check_server(server)
        places = self._places[task]
        if server in places:
            raise PlaceTaken((task, server))
        return self._with_task(task, self._works[task], (*places, server))

    def without_place(self, task, server):
        """The yard in which a task has a place less."""
        self._check_task(task)
        self._check_server(server)
        places = self._places[task]
        if server not in places:
            raise UnknownPlace((task, server))
        if len(places) == 1:
            raise LastPlace((task, server))
        return self._with_task(task, self._works[task], [place for place in places if place != server])

    def with_server(self, server, speed, *tasks):
        """The yard with a server more, which is a place of these tasks."""
        if not is_name(server):
            raise InvalidName(server)
        if not is_speed(speed):
            raise InvalidSpeed(server)
        for task in tasks:
            self._check_task(task)
        if server in self._speeds:
            raise ServerTaken(server)
        wider = {}
        for task, places in self._places.items():
            wider[task] = (self._works[task], (*places, server) if task in tasks else places)
        return Yard({**self._speeds, server: speed}, wider)

    def with_speed(self, server, speed):
        """The yard in which a server has this speed."""
        self._check_server(server)
        # No other speed can be wrong, so the constructor raises InvalidSpeed for just this one.
        return Yard({**self._speeds, server: speed}, self._given())

    def scaled(self, factor):
        """The yard in which all works are multiplied by an AMOUNT."""
        if not is_amount(factor):
            raise InvalidWork(factor)
        return Yard(self._speeds, {task: (self._works[task] * factor, self._places[task]) for task in self._works})

    def _given(self):
        """The tasks as the constructor takes them."""
        return {task: (self._works[task], self._places[task]) for task in self._works}

    def _with_task(self, task, work, places):
        """The yard in which a task that it has is as told here."""
        tasks = self._given()
        return Yard(self._speeds, {**tasks, task: (work, places)})

    def _check_server(self, server):
        if not isinstance(server, str) or server not in self._speeds:
            raise UnknownServer(server)

    def _check_task(self, task):
        if task not in self:
            raise UnknownTask(task)

    def _check_set(self, servers):
        if not is_set_of(servers, self._speeds):
            raise InvalidServers(servers)


def pairs_of(yard):
    """The dict whose keys are all tuples of a task and one of its places, sorted; it is only read."""
    return yard._pairs


def speeds_of(yard):
    """The dict of the speeds of all servers, sorted; it is only read."""
    return yard._speeds


def works_of(yard):
    """The dict of the works of all tasks, sorted; it is only read."""
    return yard._works


def is_speed(value):
    """Whether any value is an INTEGER that a server may have as its speed."""
    return is_integer(value) and 1 <= value <= Yard.MOST_SPEED


def is_set_of(value, servers):
    """Whether any value is a list of different ones of these servers, at least one."""
    if not isinstance(value, (list, tuple)) or len(value) == 0:
        return False
    # Names first: other values may be such that no set takes them.
    return all([isinstance(name, str) and name in servers for name in value]) and len(set(value)) == len(value)


def is_task(value, servers):
    """Whether any value is a tuple of an AMOUNT and of places among these servers."""
    if not isinstance(value, tuple) or len(value) != 2:
        return False
    work, places = value
    return is_amount(work) and is_set_of(places, servers)


def is_named_task(value, servers):
    """Whether any value is a tuple of a NAME and of what a task with this name has."""
    if not isinstance(value, tuple) or len(value) != 3:
        return False
    return is_name(value[0]) and is_task(value[1:], servers)


def is_name_dict(value):
    """Whether any value is a dict all of whose keys are NAMES, perhaps empty."""
    return isinstance(value, dict) and all([is_name(name) for name in value])


def check_speeds(speeds):
    """Raise the error that is due if this is no dict of servers and their speeds."""
    if not is_name_dict(speeds) or len(speeds) == 0:
        raise InvalidServers(speeds)
    wrong = [server for server in speeds if not is_speed(speeds[server])]
    if len(wrong) > 0:
        raise InvalidSpeed(sorted_names(wrong)[0])


def check_tasks(tasks, servers):
    """Raise the error that is due if this is no dict of tasks with places among these servers."""
    if not is_name_dict(tasks):
        raise InvalidTasks(tasks)
    wrong = [name for name in tasks if not is_task(tasks[name], servers)]
    if len(wrong) > 0:
        raise InvalidTask(sorted_names(wrong)[0])
