"""The text of a yard, and yards that are read from such texts."""

from evenloads.basics import is_name
from evenloads.checks import check_yard
from evenloads.errors import InvalidText
from evenloads.ratios import Ratio, is_plain_count, written
from evenloads.yards import Yard, is_speed

MOST_DIGITS = 30


def yard_text(yard):
    """The text of a yard."""
    check_yard(yard)
    lines = [f"server {server} {yard.speed(server)}\n" for server in yard.servers()]
    for task in yard.tasks():
        places = " ".join(yard.places(task))
        lines.append(f"task {task} {str(yard.work(task))}: {places}\n")
    return "".join(lines)


def read_yard(text):
    """The yard whose text this is."""
    if not isinstance(text, str):
        raise InvalidText(None)
    lines = text.split("\n")
    speeds = {}
    tasks = {}
    # What stands behind the last line feed is no line that could be right.
    for number, line in enumerate(lines[:-1], start=1):
        words = line.split(" ")
        if len(tasks) == 0 and is_server_line(words, speeds):
            speeds[words[1]] = int(words[2])
        elif is_task_line(words, tasks, speeds):
            tasks[words[1]] = (Ratio.read(words[2].removesuffix(":")), words[3:])
        else:
            raise InvalidText(number)
    # Behind the lines a server is missing, or just what the last one says cannot be told.
    if lines[-1] != "" or len(speeds) == 0:
        raise InvalidText(len(lines))
    return Yard(speeds, tasks)


def is_server_line(words, speeds):
    """Whether a text with these servers so far may go on with a line of these words, which names a further one."""
    if len(words) != 3 or words[0] != "server" or len(speeds) >= Yard.MOST_SERVERS:
        return False
    return is_next(words[1], speeds) and is_short_count(words[2]) and is_speed(int(words[2]))


def is_task_line(words, tasks, speeds):
    """Whether a text with these tasks so far may go on with a line of these words, which names a further one."""
    if len(words) < 4 or words[0] != "task" or len(tasks) >= Yard.MOST_TASKS:
        return False
    places = words[3:]
    if not is_next(words[1], tasks) or not all([place in speeds for place in places]):
        return False
    ascending = all([places[at] < places[at + 1] for at in range(len(places) - 1)])
    return ascending and words[2].endswith(":") and is_short_amount(words[2].removesuffix(":"))


def is_next(name, names):
    """Whether a word is a NAME behind all those that are there, which are sorted."""
    return is_name(name) and all([other < name for other in names])


def is_short_count(word):
    """Whether a word is a COUNT as str writes it, with at most thirty digits."""
    return len(word) <= MOST_DIGITS and is_plain_count(word)


def is_short_amount(word):
    """Whether a word is an AMOUNT as str writes it, with at most thirty digits above and below the stroke."""
    top, stroke, bottom = word.partition("/")
    # Looked at first, as longer numbers may be too long for any reading.
    if not is_short_count(top) or not is_short_count(bottom if stroke != "" else "1"):
        return False
    return written(word) is not None
