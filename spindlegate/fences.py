"""Fences: which hosts are registered for a namespace, and what is reserved.

A fence is a tuple (registrations, reservation): tuples (host, key) in ascending order of the hosts, and None or
a tuple (host, way).
"""

NO_FENCE = ((), None)

READING = ("read", "view")
# The commands that a reservation in any way keeps for its holder.
CHANGING = ("write", "trim", "snap", "drop", "remove")
OF_REGISTERED = ("leave", "reserve", "release", "preempt")


def key_of(fence, host):
    """Return the present key of a host, or None."""
    registrations, _ = fence
    return dict(registrations).get(host)


def holder_way(fence, host):
    """Return the way of the reservation if the host is the holder, otherwise None."""
    _, reservation = fence
    if reservation is None or reservation[0] != host:
        return None
    return reservation[1]


def refusal(fence, host, key, command):
    """Return the word with which a command is refused, "" if it is not refused."""
    word = command[0]
    if _refuses_key(fence, host, key, word) or _keeps_out(fence, host, word):
        return "conflict"
    if word in OF_REGISTERED:
        return _refusal_of_registered(fence, host, command)
    return ""


def changes_nothing(fence, host, command):
    """Return True if a command that was not refused is a register or a reserve that changes nothing."""
    if command[0] == "register":
        return key_of(fence, host) is not None
    return command[0] == "reserve" and holder_way(fence, host) == command[2]


def with_key(fence, host, key):
    """Return the fence in which the host is registered with this key."""
    registrations, reservation = without_key(fence, host)
    return (tuple(sorted([*registrations, (host, key)])), reservation)


def without_key(fence, host):
    """Return the fence in which the host is not registered."""
    registrations, reservation = fence
    return (tuple([row for row in registrations if row[0] != host]), reservation)


def with_holder(fence, reservation):
    """Return the fence with this reservation, or with none if it is None."""
    registrations, _ = fence
    return (registrations, reservation)


def _refuses_key(fence, host, key, word):
    """Return True if the key that a command carries, or that it carries none, refuses it."""
    present = key_of(fence, host)
    if key is not None:
        return key != present
    if word == "register":
        return False
    registrations, _ = fence
    return present is not None or (len(registrations) > 0 and word not in READING)


def _keeps_out(fence, host, word):
    """Return True if a reservation refuses a command of a host that is not its holder."""
    _, reservation = fence
    if reservation is None or reservation[0] == host:
        return False
    return word in CHANGING or (word in READING and reservation[1] == "alone")


def _refusal_of_registered(fence, host, command):
    """Return the refusal of a command that only a registered host may give."""
    _, reservation = fence
    if key_of(fence, host) is None:
        return "conflict"
    match command:
        case ("reserve", _, way):
            return "" if reservation in (None, (host, way)) else "conflict"
        case ("release", _):
            return "conflict" if holder_way(fence, host) is None else ""
        case ("preempt", _, victim):
            return _refusal_of_preempt(fence, host, victim)
    return ""


def _refusal_of_preempt(fence, host, victim):
    if victim == host:
        return "conflict"
    return "none" if key_of(fence, victim) is None else ""
