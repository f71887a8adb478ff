"""Machines of rooms, and the least one that tells just all endings (7.3)."""

from everypiece.errors import NoMachine, NoText
from everypiece.growers import States
from everypiece.kinds import is_number, is_sign, is_tuple
from everypiece.libraries import is_text

# No sign: closes each text.
END = "\n"


def _states_of(library):
    """The states of all texts, one behind the other, each closed."""
    states = States()
    for text in library.texts:
        for sign in text + END:
            states.grow(sign)
    return states


def _like_states(states):
    """For each state the first found one from which just the same strings lead to a text's end."""
    found = [None] * len(states.sizes)
    known = {}
    # What a state leads to is longer than it, so it is found ahead of it.
    for _, state in sorted([(-long, state) for state, long in enumerate(states.sizes)]):
        nexts = states.nexts[state]
        ties = tuple([(sign, found[nexts[sign]]) for sign in sorted(nexts) if sign != END])
        found[state] = known.setdefault((END in nexts, ties), state)
    return found


def machine_of(library):
    """The least machine that tells just all endings, and the empty string."""
    states = _states_of(library)
    like = _like_states(states)
    # Rooms are found by the least strings that lead to them, shorter ones first.
    rooms = [like[0]]
    numbers = {like[0]: 0}
    found = []
    while len(found) < len(rooms):
        nexts = states.nexts[rooms[len(found)]]
        ties = []
        for sign in sorted(nexts):
            if sign != END:
                state = like[nexts[sign]]
                if state not in numbers:
                    numbers[state] = len(rooms)
                    rooms.append(state)
                ties.append((sign, numbers[state]))
        # A library without texts has no ending, but the empty string is told.
        found.append((END in nexts or len(found) == 0, tuple(ties)))
    return tuple(found)


def _are_ties(thing, many):
    """Whether a thing is ties of a machine of so many rooms."""
    if not isinstance(thing, tuple):
        return False
    last = ""
    for tie in thing:
        if not is_tuple(tie, 2) or not is_sign(tie[0]) or tie[0] <= last:
            return False
        last = tie[0]
        if not is_number(tie[1]) or tie[1] >= many:
            return False
    return True


def _is_machine(thing):
    """Whether a thing is a machine."""
    if not isinstance(thing, tuple) or len(thing) == 0:
        return False
    return all([is_tuple(room, 2) and isinstance(room[0], bool) and _are_ties(room[1], len(thing)) for room in thing])


def tells(machine, signs):
    """Whether a machine tells a string."""
    if not _is_machine(machine):
        raise NoMachine()
    if not is_text(signs):
        raise NoText()
    tables = [dict(ties) for _, ties in machine]
    room = 0
    for sign in signs:
        room = tables[room].get(sign)
        if room is None:
            return False
    return machine[room][0]


def _head(heads, room):
    """The room that stands for all that were put together with a room."""
    while heads[room] != room:
        heads[room] = heads[heads[room]]
        room = heads[room]
    return room


def _least_fault(flags, tables, one, other):
    """The least string, shorter ones first, that leads from one room to a flag unlike that from the other."""
    # From rooms that are put together all strings are looked at already: if one of them
    # leads to unlike flags, an earlier string does so.
    heads = list(range(len(flags)))
    pairs = [(one, other, "")]
    looked = 0
    while looked < len(pairs):
        one, other, signs = pairs[looked]
        looked += 1
        if flags[one] != flags[other]:
            return signs
        for sign in sorted(set(list(tables[one]) + list(tables[other]))):
            # The last room is that of strings that lead nowhere.
            nexts = [tables[room].get(sign, len(flags) - 1) for room in (one, other)]
            low, high = [_head(heads, room) for room in nexts]
            if low != high:
                heads[low] = high
                pairs.append((nexts[0], nexts[1], signs + sign))
    return None


def machine_fault(library, thing):
    """The least string that just one of a machine and machine_of(library) tells, None if there is none."""
    if not _is_machine(thing):
        raise NoMachine()
    rooms = thing + machine_of(library)
    flags = [told for told, _ in rooms] + [False]
    tables = [dict(ties) for _, ties in thing]
    for _, ties in machine_of(library):
        tables.append({sign: room + len(thing) for sign, room in ties})
    return _least_fault(flags, tables + [{}], 0, len(thing))
