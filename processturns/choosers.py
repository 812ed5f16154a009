"""The chooser of each scheduler."""

from processturns.placing import AgingChooser, DueChooser, OrderChooser, SharesChooser
from processturns.queueing import LevelsChooser, QueueChooser, RoundsChooser


def chooser_for(scheduler):
    """Return the chooser that chooses as the scheduler does."""
    kind = scheduler[0]
    if kind == "first":
        return QueueChooser(0)
    if kind == "last":
        return QueueChooser(-1)
    if kind == "order":
        return OrderChooser(scheduler[1], scheduler[2], scheduler[3])
    if kind == "rounds":
        return RoundsChooser(scheduler[1], scheduler[2])
    if kind == "levels":
        return LevelsChooser(scheduler[1], scheduler[2])
    if kind == "aging":
        return AgingChooser(scheduler[1], scheduler[2])
    if kind == "due":
        return DueChooser(scheduler[1])
    return SharesChooser(scheduler[1])
