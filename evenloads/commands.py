"""Commands of a board, strings of words, and what each of them does."""

from evenloads.basics import is_name
from evenloads.curves import payers
from evenloads.errors import InvalidCommand
from evenloads.ratios import written
from evenloads.spans import span

# What the words behind the first one are; any number of names may follow where the last one is "names".
SHAPES = {
    "task": ("name", "work", "name", "names"),
    "drop": ("name",),
    "work": ("name", "work"),
    "allow": ("name", "name"),
    "forbid": ("name", "name"),
    "speed": ("name", "speed"),
    "server": ("name", "speed", "names"),
    "undo": (),
    "loads": (),
    "top": (),
    "span": ("name", "name"),
    "payers": ("name",),
}


def performed(board, command):
    """The answer of a board to a command; InvalidCommand for any value that is none."""
    if not isinstance(command, str):
        raise InvalidCommand(command)
    words = command.split(" ")
    if words[0] not in SHAPES:
        raise InvalidCommand(command)
    values = values_of(words[1:], SHAPES[words[0]])
    if values is None:
        raise InvalidCommand(command)
    action = ACTIONS[words[0]]
    return action(board, *values)


def values_of(words, shape):
    """The list of the values of words that are as a shape tells; None if they are not."""
    kinds = [kind for kind in shape if kind != "names"]
    further = len(words) - len(kinds)
    if further < 0 or (further > 0 and "names" not in shape):
        return None
    values = [value_of(word, kind) for word, kind in zip(words, kinds + ["name"] * further)]
    return None if any([value is None for value in values]) else values


def value_of(word, kind):
    """A NAME, a speed or a work that a word tells; None if it is none of this kind."""
    if kind == "name":
        return word if is_name(word) else None
    number = written(word)
    if number is None:
        return None
    if kind == "speed":
        return number.top if number.bottom == 1 else None
    return number if number.top >= 0 else None


def do_task(board, task, work, *places):
    """Add a task."""
    board.add_task((task, work, list(places)))
    return "done"


def do_drop(board, task):
    """Remove a task."""
    board.drop_task(task)
    return "done"


def do_work(board, task, work):
    """Change the work of a task."""
    board.set_work(task, work)
    return "done"


def do_allow(board, task, server):
    """Add a place of a task."""
    board.allow(task, server)
    return "done"


def do_forbid(board, task, server):
    """Remove a place of a task."""
    board.forbid(task, server)
    return "done"


def do_speed(board, server, speed):
    """Change the speed of a server."""
    board.set_speed(server, speed)
    return "done"


def do_server(board, server, speed, *tasks):
    """Add a server."""
    board.add_server(server, speed, *tasks)
    return "done"


def do_undo(board):
    """Take back a change."""
    board.undo()
    return "done"


def tell_loads(board):
    """All servers with their best loads."""
    return " ".join([f"{server}={str(load)}" for server, load in board.plan.loads().items()])


def tell_top(board):
    """The greatest best load."""
    return str(board.plan.top)


def tell_span(board, task, server):
    """The least and the greatest amount of a task at one of its places."""
    least, greatest = span(board.yard, task, server)
    return f"{str(least)} {str(greatest)}"


def tell_payers(board, task):
    """The payers of a task."""
    return " ".join(payers(board.yard, task))


ACTIONS = {
    "task": do_task,
    "drop": do_drop,
    "work": do_work,
    "allow": do_allow,
    "forbid": do_forbid,
    "speed": do_speed,
    "server": do_server,
    "undo": do_undo,
    "loads": tell_loads,
    "top": tell_top,
    "span": tell_span,
    "payers": tell_payers,
}
