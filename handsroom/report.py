"""The report of a house ([98] to [100])."""

from handsroom.judging import is_demand
from handsroom.lonetable import LoneTable
from handsroom.spreading import Spread
from handsroom.twohands import open_points
from handsroom.verdicts import Verdict


def _step_text(step):
    """The words of a step, also those of a tuple in it, without an empty tag."""
    words = []
    for part in step:
        words.extend(list(part) if isinstance(part, tuple) else [part])
    return " ".join([word for word in words if word != ""])


def _held_text(table, point):
    held = ["+".join(locks) if len(locks) > 0 else "-" for locks in table.held_sets(point)]
    return "|".join(held) if len(held) > 0 else "none"


def _status_text(step, is_open):
    if not is_demand(step):
        return "-"
    return "open" if is_open else "fresh"


def _routine_lines(house, name):
    table = LoneTable(Spread(house, name))
    opened = open_points(house, name)
    lines = [f"routine {name}"]
    for number, point in enumerate(table.spread.points):
        status = _status_text(point.step, number in opened)
        lines.append(f"{number:>3} {_step_text(point.step):<20} {_held_text(table, number):<10} {status}")
    return lines


def report(house):
    """The report of a house."""
    lines = [line for routine in house.routines for line in _routine_lines(house, routine.name)]
    return "\n".join(lines + list(Verdict(house).lines()))
