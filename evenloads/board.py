"""A board: a yard that changes, with a plan that is always best."""

from evenloads.best import best_plan
from evenloads.checks import check_yard
from evenloads.commands import performed
from evenloads.errors import CommandFailed, LimitError, LoadError, MissingError, NothingToUndo, StateError


class Board:
    """A yard with a best plan, and all that came before; unlike all else here it changes."""

    def __init__(self, yard):
        check_yard(yard)
        self._yard = yard
        # Made with each change, so that reading it changes nothing.
        self._plan = best_plan(yard)
        self._past = []

    @property
    def yard(self):
        """The yard as it is now."""
        return self._yard

    @property
    def plan(self):
        """A best plan of the yard."""
        return self._plan

    @property
    def changes(self):
        """How many changes can be taken back."""
        return len(self._past)

    def __getitem__(self, at):
        return self._yard.work(at)

    def __setitem__(self, at, worth):
        self.set_work(at, worth)

    def __iter__(self):
        raise TypeError("a board is not iterated over")

    def __iadd__(self, other):
        self.add_task(other)
        return self

    def __isub__(self, other):
        self.drop_task(other)
        return self

    def add_task(self, task):
        """Add a task, a tuple (name, work, places)."""
        self._change_to(self._yard + task)

    def drop_task(self, task):
        """Remove a task."""
        self._change_to(self._yard - task)

    def set_work(self, task, work):
        """Change the work of a task."""
        self._change_to(self._yard.with_work(task, work))

    def allow(self, task, server):
        """Add a place of a task."""
        self._change_to(self._yard.with_place(task, server))

    def forbid(self, task, server):
        """Remove a place of a task."""
        self._change_to(self._yard.without_place(task, server))

    def add_server(self, server, speed, *tasks):
        """Add a server, which is a place of these tasks."""
        self._change_to(self._yard.with_server(server, speed, *tasks))

    def set_speed(self, server, speed):
        """Change the speed of a server."""
        self._change_to(self._yard.with_speed(server, speed))

    def undo(self):
        """Take back the last change that was not taken back."""
        if len(self._past) == 0:
            raise NothingToUndo()
        self._yard, self._plan = self._past.pop()

    def copy(self):
        """A Board with the same yard and past, which changes independently."""
        made = Board(self._yard)
        made._plan = self._plan
        made._past = list(self._past)
        return made

    def tried(self, action):
        """What an action returns that is called with a copy."""
        return action(self.copy())

    def do(self, command):
        """Perform a command, and return its answer."""
        return performed(self, command)

    def do_all(self, *commands):
        """Perform commands one after another, all or none of them, and return the list of their answers."""
        trial = self.copy()
        answers = []
        for position, command in enumerate(commands):
            try:
                answers.append(trial.do(command))
            except (LoadError, MissingError, StateError, LimitError) as error:
                raise CommandFailed(position) from error
        self._yard = trial._yard
        self._plan = trial._plan
        self._past = trial._past
        return answers

    def attempt(self, *commands):
        """What do_all returns or raises on a copy."""
        return self.copy().do_all(*commands)

    def _change_to(self, yard):
        """Go on with another yard."""
        plan = best_plan(yard)
        self._past.append((self._yard, self._plan))
        self._yard = yard
        self._plan = plan
