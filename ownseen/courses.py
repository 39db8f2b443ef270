"""Which events can stand behind which: the one rule of histories and of weaves."""

from ownseen.checks import is_row, is_within
from ownseen.guards import TOP_DEAL

MOST_EVENTS = 120

# What a deal is at a house: "" until it occurs there; "off" if it was called off
# before it was ready, "undone" if it was called off when it was.
NEXT = {
    ("", "ask"): "asked",
    ("", "ready"): "ready",
    ("", "no"): "off",
    ("asked", "answer"): "answered",
    ("asked", "no"): "off",
    ("answered", "ask"): "asked",
    ("answered", "ready"): "ready",
    ("answered", "no"): "off",
    ("ready", "yes"): "yes",
    ("ready", "no"): "undone",
}

# What the deal must not be at any house for the event to stand at one.
BARS = {
    "ask": ("asked", "ready", "yes", "undone"),
    "answer": ("ready", "yes", "undone"),
    "ready": ("asked", "yes"),
    "yes": ("answered", "off", "undone"),
    "no": ("yes",),
}


def is_event(kind, value):
    """Whether any value has the form of an event at a house of the kind."""
    if not is_row(value) or len(value) < 2 or not isinstance(value[0], str):
        return False
    if not is_within(value[1], 0, TOP_DEAL):
        return False
    if value[0] in ("ready", "yes", "no"):
        return len(value) == 2
    if value[0] not in ("ask", "answer"):
        return False
    words = kind.asks if value[0] == "ask" else kind.answers
    return len(value) == 3 and is_within(value[2], 0, len(words) - 1)


class Course:
    """The events that came to some houses; phases tell for each what its deals are there."""

    def __init__(self, kinds):
        self.kinds = kinds
        self.phases = [{} for _ in kinds]
        self.came = [0 for _ in kinds]

    def takes(self, house, event):
        """Whether the event, any value, can stand at the house; then it came."""
        if self.came[house] == MOST_EVENTS or not is_event(self.kinds[house], event):
            return False
        word, deal = event[0], event[1]
        phase = NEXT.get((self.phases[house].get(deal, ""), word))
        if phase is None:
            return False
        if any([phases.get(deal, "") in BARS[word] for phases in self.phases]):
            return False
        self.phases[house][deal] = phase
        self.came[house] += 1
        return True

    def deals_in(self, wanted):
        """The lot of deals that are one of these at some house."""
        return tuple(sorted({
            deal for phases in self.phases for deal, phase in phases.items() if phase in wanted
        }))

    def all_deals(self):
        """The lot of all deals that occur."""
        return tuple(sorted({deal for phases in self.phases for deal in phases}))


def works_of(events):
    """For each deal that was answered its operations, in order; the events are of one house."""
    asks = {}
    works = {}
    for event in events:
        if event[0] == "ask":
            asks[event[1]] = event[2]
        elif event[0] == "answer":
            works[event[1]] = works.get(event[1], ()) + ((asks[event[1]], event[2]),)
    return works
