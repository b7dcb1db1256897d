"""Plans, instances and outcomes by the words of the document alone, for several tests."""

from support import (
    Model, all_deeds, all_events, all_places, is_between, is_plain_row, plain_alike, plain_come, plain_inputs,
    plain_late, plain_led, random_events,
)

KINDS = ["carry", "twice", "swap", "late", "drop"]


def deeds_of(book, edition):
    return [one for one in plain_inputs(book, edition) if one != "carry"]


def come_of(book):
    return [place for place in all_places(book) if place in plain_come(book)]


def fences_of(book):
    deeds = sorted(all_deeds(book))
    return [(), tuple(deeds[:1]), tuple(deeds[1::2]), tuple(deeds)]


def late_deeds(plan):
    return plan.window or 0


def asks(plan, word):
    return {
        "carry": True,
        "twice": plan.way in ("key", "all") and plan.window is None and not plan.stamp,
        "swap": plan.way == "letter" and not plan.stamp,
        "late": plan.way == "letter" and not plan.stamp and plan.window != "ever",
        "drop": plan.way == "letter" and plan.stamp,
    }[word]


def asked(book, plan):
    """All instances that a plan asks, of the late ones what stands ahead of their rows."""
    for word in [word for word in KINDS if asks(plan, word)]:
        for place in come_of(book):
            deeds = deeds_of(book, place[0])
            for k, one in enumerate(deeds):
                if word == "carry" and (place[0] == book.last or one in plan.fence):
                    continue
                others = {"swap": deeds[k + 1:], "drop": deeds}.get(word)
                yield from [(word, place, one)] if others is None else [(word, place, one, other) for other in others]


def fails(book, instance):
    word, place, one = instance[:3]
    other = instance[3:]
    rows = {
        "carry": ([one, "carry"], ["carry", one]), "twice": ([one, one], [one]), "swap": ([one, *other], [*other, one]),
        "drop": ([one, *other], [*other]),
    }[word]
    return not plain_alike(book, *[plain_led(book, place, row) for row in rows])


def plain_failing(book, plan):
    found = []
    for instance in asked(book, plan):
        word, place, one = instance[:3]
        if word == "late":
            pair = [plain_led(book, place, [one, one]), plain_led(book, place, [one])]
            if plain_late(book, *pair, late_deeds(plan), one in plan.fence):
                found.append(instance)
        elif fails(book, instance):
            found.append(instance)
    return found


def is_plain_failing(book, plan, value):
    if value.__class__ is not tuple or not 3 <= len(value) <= 4 or value[0].__class__ is not str:
        return False
    word, place, one = value[:3]
    if word not in KINDS or not asks(plan, word):
        return False
    if place.__class__ is not tuple or [part.__class__ for part in place] != [int, str] or place not in come_of(book):
        return False
    if is_plain_row(book, place[0], [one]) is None or one == "carry":
        return False
    if word == "late":
        if len(value) != 4 or not is_between(book, place, value[3], late_deeds(plan), one in plan.fence):
            return False
        behind = [plain_led(book, place, row + value[3]) for row in ([one, one], [one])]
        return not plain_alike(book, *behind)
    if len(value) == 4 and is_plain_row(book, place[0], [value[3]]) is None:
        return False
    return value in list(asked(book, plan)) and fails(book, value)


def is_form(book, value):
    """Whether a value is an event by its form."""
    if value.__class__ is not tuple or not value or value[0].__class__ is not str:
        return False
    if value[0] == "send":
        if len(value) != 3 or value[1].__class__ is not str or value[2].__class__ is not tuple or len(value[2]) != 2:
            return False
        if [part.__class__ for part in value[2]] != [int, str]:
            return False
        return value in all_events(book, [value[1]]) and value[1].isalpha() and value[1].islower() and len(value[1]) < 9
    return value in all_events(book, [])


def plain_outcome(book, plan, events):
    model = Model(book, plan)
    for position, event in enumerate(events):
        if not is_form(book, event) or not model.can(event):
            return ("impossible", position)
        model.do(event)
    if model.under_way():
        return ("busy", tuple(model.under_way()))
    keys = sorted({key for key, _ in model.letters if len(set(model.shown(key))) > 1})
    return ("harm", tuple(keys)) if keys else ("fine",)


def settled(pick, book, plan, many, keys=("k", "ab", "z")):
    """A row of possible events behind which the shelf is quiet, with its model."""
    model = random_events(pick, book, plan, many, keys)
    while model.under_way():
        word = "replay" if model.shelved and (not model.can(("work", "done")) or pick.random() < 0.5) else "work"
        model.do((word, pick.choice(["done", "done", "stops"])))
    return model
