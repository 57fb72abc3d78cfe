"""Answers that are kept with what shows them: a plan, a set of servers that bars, or both."""

from evenloads.bounds import fitted, least_top, place_all, top_set


class Answer:
    """An answer about a yard."""

    def __init__(self, about):
        self.about = about

    def told(self):
        """How many servers and tasks the yard has."""
        return f"{len(self.about.servers())} servers, {len(self.about)} tasks"


class Shown(Answer):
    """An answer that a plan shows."""

    def __init__(self, about, layout):
        Answer.__init__(self, about)
        self.layout = layout

    def told(self):
        """That there is a plan, and what the next class tells."""
        return "shown: " + super().told()


class Barred(Answer):
    """An answer that a set of servers shows."""

    def __init__(self, about, barring):
        Answer.__init__(self, about)
        self.barring = barring

    def told(self):
        """That there is a set of servers, and what the next class tells."""
        return "barred: " + super().told()


class Exact(Shown, Barred):
    """An answer that a plan shows from one side, and a set of servers from the other one."""

    def __init__(self, about, layout, barring):
        Shown.__init__(self, about, layout)
        Barred.__init__(self, about, barring)

    def told(self):
        """That both are there, and what the next class tells."""
        return "exact: " + super().told()


def answer(yard, bounds):
    """A Shown with a plan within bounds, or a Barred with a bar."""
    layout, barring = fitted(yard, bounds)
    if layout is None:
        return Barred(yard, barring)
    return Shown(yard, layout)


def exact_top(yard):
    """An Exact with a plan with no load above the least top, and the greatest set with this density."""
    return Exact(yard, place_all(yard, least_top(yard)), top_set(yard))
