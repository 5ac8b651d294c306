"""The watcher: takes the lines of a log, and tells for each watch of a text of rules what is settled by them."""

from sheetwatch.core import core_of
from sheetwatch.engine import make_node
from sheetwatch.errors import NotWatchable
from sheetwatch.judge import can_be_watched
from sheetwatch.kinds import kinds_of
from sheetwatch.logs import check_time, read_line
from sheetwatch.names import check_names
from sheetwatch.parser import parse


class Watcher:
    """Watches a log for all watches of a text of rules."""

    def __init__(self, text):
        tree = parse(text)
        check_names(tree)
        self.events = {item[1]: item[2] for item in tree if item[0] == "event"}
        self.watches = _watches_of(tree, self.events)
        self.points = 0
        # A copy, because everybody may change what a field shows.
        self._kinds = dict(self.events)
        self._last_time = None
        self._begun = ""
        self._running = [Running(name, make_node(core)) for name, core in self.watches]

    def take(self, line):
        """The list of the answers (name, i, time, columns, rows) that a line without its newline settles."""
        point = read_line(line, self._kinds)
        check_time(point, self._last_time)
        self._last_time = point[0]
        self.points += 1
        answers = []
        for watch in self._running:
            answers.extend(watch.take_point(point))
        return answers

    def take_text(self, piece):
        """The list of the answers of all lines that a piece of text completes."""
        lines = (self._begun + piece).split("\n")
        # If a line raises an error, nothing of it and of what comes behind it is kept.
        self._begun = ""
        answers = []
        for line in lines[:-1]:
            answers.extend(self.take(line))
        self._begun = lines[-1]
        return answers

    def save(self):
        """What the watcher knows, a value."""
        running = tuple([watch.save() for watch in self._running])
        return (self.points, self._last_time, self._begun, running)

    def lay_back(self, saved):
        """Takes over what a watcher of the same text has saved."""
        self.points, self._last_time, self._begun, running = saved
        for watch, own in zip(self._running, running):
            watch.lay_back(own)

    def held(self):
        """The number of rows in all tables that the nodes hold."""
        return sum([watch.held() for watch in self._running])


class Running:
    """One watch with its node, and the times of the points that nothing was told for."""

    def __init__(self, name, node):
        self.name = name
        self.node = node
        self.told = 0
        self.times = []

    def take_point(self, point):
        """The list of the answers that a point settles."""
        self.times.append(point[0])
        answers = []
        for columns, rows in self.node.add(point):
            answers.append((self.name, self.told, self.times.pop(0), columns, rows))
            self.told += 1
        return answers

    def save(self):
        """What is known of the watch, a value."""
        return (self.told, tuple(self.times), self.node.state())

    def lay_back(self, saved):
        """Takes over what was saved."""
        self.told, times, state = saved
        self.times = list(times)
        self.node.lay_back(state)

    def held(self):
        """The number of rows in all tables that the node holds."""
        return self.node.held()


def _watches_of(tree, events):
    """The tuple of the pairs (name, core rule) of a tree of rules whose names are right."""
    defs = {item[1]: item[2:] for item in tree if item[0] == "def"}
    watches = []
    for item in tree:
        if item[0] == "watch":
            _, name, rule = item
            core = core_of(rule, defs)
            kinds_of(core, events)
            if not can_be_watched(core):
                raise NotWatchable(name)
            watches.append((name, core))
    return tuple(watches)
