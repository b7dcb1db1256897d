"""Fences and windows that are enough, and plans that are as strict or spare."""

from lateeditions.conditions import Ground, is_sound_on, needed_fence
from lateeditions.plans import EVER, WAYS, Plan, check_fence

WINDOWS = (None, 1, 2, 3, 4, 5, 6, 7, 8, 9, 10, 11, 12, EVER)
NO_WINDOW = 0


def with_window(plan, window):
    return Plan(plan.way, tries=plan.tries, window=window, stamp=plan.stamp, fence=plan.fence)


def with_fence(plan, fence):
    return Plan(plan.way, tries=plan.tries, window=plan.window, stamp=plan.stamp, fence=fence)


def least_fence(book, plan):
    """The ascending list of the deeds that must be in the fence, or None if none is enough."""
    check_fence(book, plan)
    return needed_fence(Ground(book), plan)


def least_window(book, plan):
    """The least window that is enough, 0 for none, or None if there is none."""
    check_fence(book, plan)
    ground = Ground(book)
    for window in WINDOWS:
        if is_sound_on(ground, with_window(plan, window)):
            return NO_WINDOW if window is None else window
    return None


def is_as_strict(one, other):
    """Whether the plan other is at least as strict as the plan one."""
    if WAYS.index(other.way) < WAYS.index(one.way):
        return False
    if WINDOWS.index(other.window) < WINDOWS.index(one.window):
        return False
    if not all([deed in other.fence for deed in one.fence]):
        return False
    return one.stamp == other.stamp or other.stamp and other.way != "letter"


def sparing(book):
    """The list of the sparing plans of a book."""
    ground = Ground(book)
    plans = []
    for way in WAYS:
        plans += sparing_with(ground, way, False, WINDOWS) + sparing_with(ground, way, True, (None,))
    return plans


def sparing_with(ground, way, stamp, windows):
    """The sparing plans of one way, with a stamp or without one."""
    plans = []
    for window in windows:
        plan = Plan(way, window=window, stamp=stamp)
        fence = needed_fence(ground, plan)
        if fence is not None and all([len(fence) < len(spared.fence) for spared in plans]):
            plans.append(with_fence(plan, fence))
    return plans
