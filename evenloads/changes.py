"""What changes of a yard do to all loads, and who pays for each task's work."""

from evenloads.best import best_loads
from evenloads.checks import check_yard
from evenloads.curves import check_size, payers


def effects(yard, later):
    """The dict from the servers that two yards have in common to how much more load they have in the later one."""
    check_yard(yard)
    check_yard(later)
    before = best_loads(yard)
    after = best_loads(later)
    return {server: after[server] - before[server] for server in before if server in after}


def who_pays(yard):
    """The dict from all tasks to their payers."""
    check_yard(yard)
    check_size(yard)
    return {task: payers(yard, task) for task in yard.tasks()}
