"""Stories: what happened in a world, as a person reads it."""

from ownseen.errors import BadValue
from ownseen.worlds import World


def told_event(kinds, event):
    """An event of a weave in words."""
    word, house, deal = event[:3]
    if word == "ask":
        return f"deal {deal} asks house {house}: {kinds[house].asks[event[3]]}"
    if word == "answer":
        return f"house {house} answers deal {deal}: {kinds[house].answers[event[3]]}"
    if word == "ready":
        return f"house {house} is ready for deal {deal}"
    return f"{word} for deal {deal} at house {house}"


def story(world):
    """What happened, event by event."""
    if not isinstance(world, World):
        raise BadValue("world")
    weave = world.weave()
    return tuple([told_event(weave.kinds, event) for event in weave.events])
