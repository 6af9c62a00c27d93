"""Numbers that are made from a counter, for acts and commands that differ from one another."""


class Counting:
    """Each number is the next one of a counter, with its digits mixed."""

    def __init__(self, start):
        self.count = start * 1000003

    def below(self, bound):
        self.count += 1
        mixed = self.count * 0x9E3779B97F4A7C15 % 2**64
        mixed = (mixed ^ mixed >> 30) * 0xBF58476D1CE4E5B9 % 2**64
        return (mixed ^ mixed >> 31) % bound

    def pick(self, choices):
        return choices[self.below(len(choices))]

    def happens(self, percent):
        return self.below(100) < percent


# How often each command is drawn, out of 100.
SHARES = {
    "make": 6, "remove": 1, "write": 34, "trim": 8, "read": 5, "snap": 6, "view": 4, "drop": 6, "register": 8,
    "leave": 4, "reserve": 6, "release": 5, "preempt": 4, "flush": 3,
}
WORDS = [word for word, share in SHARES.items() for _ in range(share)]


def a_command(counting, state, namespaces=3, size=6):
    """A command; its snapshot, if it has one, mostly exists in the state, which may be None."""
    namespace, place = 1 + counting.below(namespaces), counting.below(size)
    existing = sorted(number for _, number in state["snaps"]) if state else []
    snapshot = counting.pick(existing) if existing and counting.happens(90) else 1 + counting.below(40)
    fields = {
        "make": (namespace, size), "write": (namespace, place, counting.below(100) - 10), "trim": (namespace, place),
        "read": (namespace, place), "view": (namespace, snapshot, place), "drop": (namespace, snapshot),
        "reserve": (namespace, counting.pick(("write", "alone"))), "preempt": (namespace, counting.below(4)),
        "flush": (),
    }
    word = counting.pick(WORDS)
    return (word, *fields.get(word, (namespace,)))
