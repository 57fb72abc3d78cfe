"""Assignments: whole jobs, each at one of its places."""

from evenloads.checks import check_server, check_task, check_yard
from evenloads.errors import InvalidAssignment, InvalidMoves, NotWhole
from evenloads.moves import Move, is_chain
from evenloads.plans import Plan


class Assignment:
    """Where each job of a whole yard is; it never changes."""

    def __init__(self, yard, spots):
        check_yard(yard)
        if not is_spots(yard, spots):
            raise InvalidAssignment(spots)
        check_whole(yard)
        self._yard = yard
        self._spots = {job: spots[job] for job in yard.tasks()}

    @property
    def yard(self):
        """The yard whose jobs these are."""
        return self._yard

    def __getitem__(self, at):
        check_task(self._yard, at)
        return self._spots[at]

    def __iter__(self):
        raise TypeError("an assignment is not iterated over")

    def spots(self):
        """The dict from all jobs to where they are."""
        return dict(self._spots)

    def counts(self):
        """The dict from all servers to the numbers of jobs at them."""
        spots = list(self._spots.values())
        return {server: spots.count(server) for server in self._yard.servers()}

    def jobs_at(self, server):
        """The sorted list of the jobs at a server."""
        check_server(self._yard, server)
        return [job for job, spot in self._spots.items() if spot == server]

    def steps(self):
        """The sorted list of all steps."""
        # Jobs and places are sorted, so that the moves come in order.
        return [Move(job, spot, place) for job, spot in self._spots.items()
                for place in self._yard.places(job) if place != spot]

    def is_way(self, value):
        """Whether any value is a list of Moves that is a way."""
        # A chain comes to no server twice, so that no job can make two of its steps.
        return is_chain(value) and all([self._is_step(move) for move in value])

    def taken(self, moves):
        """The assignment behind a way."""
        if not self.is_way(moves):
            raise InvalidMoves(None)
        spots = dict(self._spots)
        for move in moves:
            spots[move.task] = move.goal
        return Assignment(self._yard, spots)

    def as_plan(self):
        """The plan in which each job gives all its work where it is."""
        return Plan(self._yard, {(job, spot): 1 for job, spot in self._spots.items()})

    def __eq__(self, other):
        return isinstance(other, Assignment) and self._yard == other._yard and self._spots == other._spots

    def _is_step(self, move):
        """Whether a move takes a job from where it is to another one of its places."""
        if move.task not in self._spots or self._spots[move.task] != move.start:
            return False
        return move.goal in self._yard.places(move.task)


def check_assignment(assignment):
    """Raise InvalidAssignment for any value that is no Assignment."""
    if not isinstance(assignment, Assignment):
        raise InvalidAssignment(assignment)


def check_whole(yard):
    """Raise NotWhole for a yard that is not whole."""
    if not yard.is_whole:
        raise NotWhole(yard)


def is_spots(yard, value):
    """Whether any value is a dict from all tasks of a yard, and no other keys, to places of theirs."""
    if not isinstance(value, dict) or len(value) != len(yard):
        return False
    return all([task in value and value[task] in yard.places(task) for task in yard.tasks()])
