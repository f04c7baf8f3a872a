"""The machine: it matches a text with a grammar and remembers the calls.

A match may nest as deep as the text is long, so the machine keeps a stack of
tasks of its own. What an expression found is None, if it failed, or the pair
of its end and its trees. While the machine works, trees are None, one tree, or
two such things that are joined.
"""

from graft.facts import check


class Joined:
    """Trees in front of other trees.

    They become a tuple only for a mark or for the whole match. Rules that call
    themselves would otherwise copy their trees once for each call.
    """

    def __init__(self, left, right):
        self.left = left
        self.right = right


class Task:
    """An expression that is being matched at a place, and how far this has come."""

    def __init__(self, expression, at):
        self.expression = expression
        self.at = at
        self.asked = 0
        self.reached = at
        self.trees = None


def joined(left, right):
    """Return the trees on the left in front of those on the right."""
    if left is None:
        return right
    if right is None:
        return left
    return Joined(left, right)


def flat(trees):
    """Return the tuple of trees that may be joined."""
    found = []
    rest = [trees]
    while rest:
        first = rest.pop()
        if isinstance(first, Joined):
            rest.append(first.right)
            rest.append(first.left)
        elif first is not None:
            found.append(first)
    return tuple(found)


def found_at_once(expression, text, at):
    """Return what an expression without expressions inside finds, which is no call."""
    head = expression[0]
    if head == "eps":
        return at, None
    if head == "any" and at < len(text):
        return at + 1, None
    if head == "set" and at < len(text) and text[at] in expression[1]:
        return at + 1, None
    if head == "text" and text[at:at + len(expression[1])] == expression[1]:
        return at + len(expression[1]), None
    return None


def advanced(machine, task):
    """Put what the last part found behind what the task has taken; tell whether there was something."""
    if machine.found is None:
        return False
    end, trees = machine.found
    task.reached = end
    task.trees = joined(task.trees, trees)
    return True


def step_seq(machine, task):
    """Go on with a seq: ask for the next part, or finish."""
    parts = task.expression[1]
    if task.asked > 0 and not advanced(machine, task):
        machine.finish(None)
    elif task.asked < len(parts):
        machine.ask(task, parts[task.asked], task.reached)
    else:
        machine.finish((task.reached, task.trees))


def step_alt(machine, task):
    """Go on with an alt: take what was found, or ask for the next part."""
    parts = task.expression[1]
    if task.asked > 0 and machine.found is not None:
        machine.finish(machine.found)
    elif task.asked < len(parts):
        machine.ask(task, parts[task.asked], task.at)
    else:
        machine.finish(None)


def step_star(machine, task):
    """Go on with a star: ask once more, until its expression fails."""
    if task.asked > 0 and not advanced(machine, task):
        machine.finish((task.reached, task.trees))
    else:
        machine.ask(task, task.expression[1], task.reached)


def step_opt(machine, task):
    """Go on with an opt: take what was found, or nothing."""
    if task.asked == 0:
        machine.ask(task, task.expression[1], task.at)
    elif machine.found is None:
        machine.finish((task.at, None))
    else:
        machine.finish(machine.found)


def step_not(machine, task):
    """Go on with a not: succeed if its expression failed."""
    if task.asked == 0:
        machine.ask(task, task.expression[1], task.at)
    elif machine.found is None:
        machine.finish((task.at, None))
    else:
        machine.finish(None)


def step_and(machine, task):
    """Go on with an and: succeed if its expression succeeded, but take nothing."""
    if task.asked == 0:
        machine.ask(task, task.expression[1], task.at)
    elif machine.found is None:
        machine.finish(None)
    else:
        machine.finish((task.at, None))


def step_call(machine, task):
    """Go on with a call: enter it if it is not remembered, and remember what was found."""
    call = (task.expression[1], task.at)
    if task.asked > 0:
        machine.remembered[call] = machine.found
        machine.finish(machine.found)
    elif call in machine.remembered:
        machine.finish(machine.remembered[call])
    else:
        machine.entered.append(call)
        machine.ask(task, machine.rules[call[0]], task.at)


def step_mark(machine, task):
    """Go on with a mark: make one tree of what was found."""
    if task.asked == 0:
        machine.ask(task, task.expression[2], task.at)
    elif machine.found is None:
        machine.finish(None)
    else:
        end, trees = machine.found
        machine.finish((end, (task.expression[1], task.at, end, flat(trees))))


STEPS = {
    "seq": step_seq,
    "alt": step_alt,
    "star": step_star,
    "opt": step_opt,
    "not": step_not,
    "and": step_and,
    "call": step_call,
    "mark": step_mark,
}


class Machine:
    """One run: the tasks that are not finished, what the last expression found, and the calls so far."""

    def __init__(self, grammar, text):
        self.rules = {name: expression for name, expression in grammar}
        self.text = text
        self.tasks = []
        self.found = None
        self.remembered = {}
        self.entered = []

    def begin(self, expression, at):
        """Begin to match an expression at a place; a plain one is finished at once."""
        if expression[0] in STEPS:
            self.tasks.append(Task(expression, at))
        else:
            self.found = found_at_once(expression, self.text, at)

    def ask(self, task, expression, at):
        """Begin an expression for a task, which goes on when it is finished."""
        task.asked += 1
        self.begin(expression, at)

    def finish(self, found):
        """Finish the last task, and keep what it found for the one that asked."""
        self.tasks.pop()
        self.found = found

    def work(self):
        """Go on until all tasks are finished."""
        while self.tasks:
            task = self.tasks[-1]
            step = STEPS[task.expression[0]]
            step(self, task)


def run(grammar, text, at):
    """Return the pair of what match returns and the list of the calls that were entered."""
    check(grammar)
    machine = Machine(grammar, text)
    machine.begin(("call", grammar[0][0]), at)
    machine.work()
    if machine.found is None:
        return None, machine.entered
    end, trees = machine.found
    return (end, flat(trees)), machine.entered


def match(grammar, text, at=0):
    """Return the end and the trees of a match of the first rule at a place of the text, or None."""
    return run(grammar, text, at)[0]
