"""The state: what all records up to an order mean together."""

from spindlegate.bounds import is_whole
from spindlegate.errors import NotValid
from spindlegate.fences import NO_FENCE, with_holder, with_key, without_key
from spindlegate.records import each_once, effects


def new_state():
    """Return the state before all records."""
    return {"order": 0, "spaces": {}, "snaps": {}, "marks": {}}


def apply_record(state, record):
    """Return the state after a record whose order is greater than that of the state."""
    after = {**state, "order": record[0]}
    for topic, value in effects(record):
        after = _after_effect(after, topic, value)
    return after


def fold(records):
    """Return the state after all records of a list, each applied once and in ascending order."""
    state = new_state()
    for record in each_once(records):
        state = apply_record(state, record)
    return state


def space_of(state, namespace):
    """Return the space of a namespace, the tuple (size, cells, fence)."""
    if not is_whole(namespace) or namespace not in state["spaces"]:
        raise NotValid()
    return state["spaces"][namespace]


def read_cell(state, namespace, place):
    """Return the value of a place, or None if it has none."""
    _, cells, _ = space_of(state, namespace)
    return cells.get(place)


def read_snapshot(state, namespace, number, place):
    """Return the value of a place in a snapshot, or None if it has none."""
    if not is_whole(namespace) or not is_whole(number) or (namespace, number) not in state["snaps"]:
        raise NotValid()
    return state["snaps"][(namespace, number)].get(place)


def _after_effect(state, topic, value):
    """Return the state after one effect."""
    match topic:
        case ("host", host):
            _, _, _, told = state["marks"].get(host, (0, 0, None, None))
            return _with_entry(state, "marks", host, (*value, told))
        case ("told", host):
            session, counter, answer, _ = state["marks"][host]
            return _with_entry(state, "marks", host, (session, counter, answer, value))
        case ("space", namespace):
            return _with_entry(state, "spaces", namespace, (value, {}, NO_FENCE))
    if topic[1] not in state["spaces"]:
        return state
    return _after_effect_within(state, topic, value)


def _after_effect_within(state, topic, value):
    """Return the state after an effect on a namespace that exists."""
    size, cells, fence = state["spaces"][topic[1]]
    match topic:
        case ("gone", namespace):
            return _without_space(state, namespace)
        case ("snap", namespace, number):
            # States are never changed in place, so the snapshot may have the very cells of the space.
            return _with_entry(state, "snaps", (namespace, number), None if value is None else cells)
        case ("place", namespace, place):
            space = (size, _changed(cells, place, value), fence)
            return _with_entry(state, "spaces", namespace, space)
        case ("key", namespace, host):
            after = without_key(fence, host) if value is None else with_key(fence, host, value)
            return _with_entry(state, "spaces", namespace, (size, cells, after))
        case ("hold", namespace):
            return _with_entry(state, "spaces", namespace, (size, cells, with_holder(fence, value)))


def _without_space(state, namespace):
    """Return the state without a namespace and its snapshots."""
    snaps = state["snaps"]
    left = {name: snaps[name] for name in snaps if name[0] != namespace}
    return {**_with_entry(state, "spaces", namespace, None), "snaps": left}


def _with_entry(state, part, name, value):
    """Return the state in which an entry of one of its dicts has the value, or is not there if it is None."""
    return {**state, part: _changed(state[part], name, value)}


def _changed(table, name, value):
    """Return a copy of a dict in which a name has the value, or is not there if it is None."""
    changed = {other: table[other] for other in table if other != name}
    if value is not None:
        changed[name] = value
    return changed
