"""Numbers that are made from a counter, for acts and commands that differ from one another."""


class Counting:
    """Each number is the next one of a counter, with its digits mixed."""

    def __init__(self, start):
        self.count = start * 1000003

    def below(self, bound):
        self.count += 1
        mixed = self.count * 0x9E3779B97F4A7C15 % 2**64
        mixed = (mixed ^ mixed >> 30) * 0xBF58476D1CE4E5B9 % 2**64
        return (mixed ^ mixed >> 31) % bound

    def pick(self, choices):
        return choices[self.below(len(choices))]

    def happens(self, percent):
        return self.below(100) < percent


# How often each command is drawn, out of 100.
SHARES = {
    "make": 5, "remove": 2, "write": 36, "trim": 8, "read": 5, "snap": 6, "view": 4, "drop": 8, "register": 8,
    "leave": 4, "reserve": 3, "release": 5, "preempt": 4, "flush": 2,
}
WORDS = [word for word, share in SHARES.items() for _ in range(share)]


def a_command(counting, state, namespaces=3, size=6):
    """A command; its namespace and its snapshot, if it has one, mostly exist in the state, which may be None."""
    word, namespace, place = counting.pick(WORDS), 1 + counting.below(namespaces), counting.below(size)
    if state and state["spaces"] and word != "make" and counting.happens(90):
        namespace = counting.pick(sorted(state["spaces"]))
    existing = sorted(number for of, number in state["snaps"] if of == namespace) if state else []
    snapshot = counting.pick(existing) if existing and counting.happens(90) else 1 + counting.below(40)
    fields = {
        "make": (namespace, size), "write": (namespace, place, counting.below(100) - 10), "trim": (namespace, place),
        "read": (namespace, place), "view": (namespace, snapshot, place), "drop": (namespace, snapshot),
        "reserve": (namespace, counting.pick(("write", "alone"))), "preempt": (namespace, counting.below(4)),
        "flush": (),
    }
    return (word, *fields.get(word, (namespace,)))


def some_acts(counting, state, failures=2):
    """A few acts: mostly a command and its way there and back, but also others, and power that is to fail."""
    host, path = counting.below(4), counting.below(2)
    begin = ("begin", host, path, a_command(counting, state))
    arrive, answer = ("arrive", host, path, counting.below(3)), ("answer", host, path, counting.below(3))
    if counting.happens(failures):
        return [("fail", counting.below(20)) if counting.happens(80) else ("cut", counting.below(3))]
    chance = counting.below(100)
    if chance < 70:
        return [begin, arrive, answer]
    if chance < 85:
        return [("again", host, path), arrive, answer]
    return [counting.pick((
        begin, arrive, answer, ("drop", host, path, counting.below(3), counting.happens(50)),
        ("double", host, path, counting.below(3), counting.happens(50)), ("double", host, path, 0, True),
        ("double", host, path, 0, False), ("down", host, path), ("up", host, path), ("up", host, 0), ("up", host, 1),
        ("flush",),
    ))]
