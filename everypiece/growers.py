"""A grower: the states of one text that grows behind (7.4)."""

from everypiece.errors import NoSign, NoState, NoText, TooMany
from everypiece.kinds import is_number, is_sign
from everypiece.libraries import MOST_SIGNS, is_text


class States:
    """The states of a text that grows, as lists by their numbers; its signs may be any characters."""

    def __init__(self):
        # The lengths of the longest pieces.
        self.sizes = [0]
        self.links = [None]
        # Dicts from signs to states.
        self.nexts = [{}]
        # One end of the pieces, of all that there are.
        self.known_ends = [0]
        # The state of the whole text.
        self.whole = 0

    def _new(self, long, end, nexts):
        """Makes a state, which is linked to none as yet; returns its number."""
        self.sizes.append(long)
        self.links.append(None)
        self.nexts.append(nexts)
        self.known_ends.append(end)
        return len(self.sizes) - 1

    def _split(self, state, sign):
        """Makes a state of the shorter pieces of one, from that of a state and the sign on; returns its number."""
        other = self.nexts[state][sign]
        new = self._new(self.sizes[state] + 1, self.known_ends[other], dict(self.nexts[other]))
        self.links[new] = self.links[other]
        self.links[other] = new
        while state is not None and self.nexts[state].get(sign) == other:
            self.nexts[state][sign] = new
            state = self.links[state]
        return new

    def grow(self, sign):
        """The text has a sign behind it; returns how many states were made, 1 or 2."""
        state = self.whole
        long = self.sizes[state] + 1
        new = self._new(long, long, {})
        self.whole = new
        while state is not None and sign not in self.nexts[state]:
            self.nexts[state][sign] = new
            state = self.links[state]
        if state is None:
            self.links[new] = 0
            return 1
        other = self.nexts[state][sign]
        if self.sizes[other] == self.sizes[state] + 1:
            self.links[new] = other
            return 1
        self.links[new] = self._split(state, sign)
        return 2

    def twin(self):
        """Other States that grow apart."""
        other = States()
        other.sizes = list(self.sizes)
        other.links = list(self.links)
        other.nexts = [dict(nexts) for nexts in self.nexts]
        other.known_ends = list(self.known_ends)
        other.whole = self.whole
        return other


class Grower:
    """Keeps, of one text that grows behind, the states: lots of the pieces that end at the same places."""

    def __init__(self):
        self._signs = ""
        self._states = States()

    def put(self, sign):
        """The text has a sign behind it; returns how many states were made, 1 or 2."""
        if not is_sign(sign):
            raise NoSign()
        if len(self._signs) == MOST_SIGNS:
            raise TooMany(MOST_SIGNS)
        self._signs = self._signs + sign
        return self._states.grow(sign)

    def text(self):
        """The text as it is now."""
        return self._signs

    def lots(self):
        """The list of the pairs (least length, length of the longest) of the pieces of all states."""
        sizes = self._states.sizes
        least = [0 if link is None else sizes[link] + 1 for link in self._states.links]
        return list(zip(least, sizes))

    def _check(self, state):
        """Raises an error for what is the number of no state."""
        if not is_number(state) or state >= len(self._states.sizes):
            raise NoState()

    def ties(self, state):
        """The ascending tuple of the pairs (sign, state) to which signs lead from a state."""
        self._check(state)
        return tuple(sorted(list(self._states.nexts[state].items())))

    def link(self, state):
        """The state of the longest ending of a state's pieces that is of another one, None for 0."""
        self._check(state)
        return self._states.links[state]

    def ends(self, state):
        """The ascending list of the places behind which a state's pieces end: how many signs are ahead of there."""
        self._check(state)
        long = self._states.sizes[state]
        end = self._states.known_ends[state]
        piece = self._signs[end - long:end]
        return [other for other in range(long, len(self._signs) + 1) if self._signs.startswith(piece, other - long)]

    def state_of(self, signs):
        """The state to which a string leads, None if to none."""
        if not is_text(signs):
            raise NoText()
        state = 0
        for sign in signs:
            state = self._states.nexts[state].get(sign)
            if state is None:
                return None
        return state

    def copy(self):
        """Another Grower that goes on apart."""
        other = Grower()
        other._signs = self._signs
        other._states = self._states.twin()
        return other
