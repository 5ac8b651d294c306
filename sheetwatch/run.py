"""Running: what a watcher tells of a whole log, and why."""

from sheetwatch.logs import lines_of, read_log, write_row
from sheetwatch.sheets import make_sheet
from sheetwatch.watcher import Watcher


def run_text(rules, log):
    """The text of what a watcher of a text of rules tells of a text of a log."""
    watcher = Watcher(rules)
    told = []
    for line in lines_of(log):
        for name, i, time, _, rows in watcher.take(line):
            if rows:
                shown = " ".join([write_row(row) for row in rows])
                told.append(f"{name} @{time} (point {i}): {shown}\n")
    return "".join(told)


def show_why(rules, log, name, i, values):
    """The pair of whether a watch holds at a point of a log for values, and the sheet that shows it."""
    watcher = Watcher(rules)
    core = dict(watcher.watches)[name]
    points = read_log(log, watcher.events)
    sheet = make_sheet(core, points, i, values, True)
    if sheet is not None:
        return (True, sheet)
    return (False, make_sheet(core, points, i, values, False))
