"""Histories: hands that come and go, the names that they hold, and rounds that give them new ones."""

from quietsums.checks import is_known, is_name, require_hands, require_modulus
from quietsums.errors import InvalidName, MissingName, NameTaken, OtherModulus, TooMany, UnknownHand
from quietsums.spaces import Space

MOST_HANDS = 4


class Scene:
    """A round of a history: its ladder, and a dict from the hands that are present to what they hold before it."""

    def __init__(self, ladder, held):
        self._ladder = ladder
        self._held = held

    @property
    def ladder(self):
        """The ladder."""
        return self._ladder

    def hands(self):
        """Return the sorted list of the hands that are present."""
        return sorted(self._held)

    def space(self, group):
        """Return the space of what a group of present hands sees just before, during and just after the round."""
        taking = [hand for hand in group if hand in self._ladder.doors.hands()]
        names = [name for hand in group for name in self._held[hand]]
        # What the hands hold after it and not before it are outs, which the ladder lets their holders know.
        return Space.everything(self._ladder.doors.modulus, names).joined(self._ladder.space(taking))

    def __eq__(self, other):
        return isinstance(other, Scene) and self._ladder == other._ladder and self._held == other._held


class History:
    """A modulus, present hands, names, and rounds. It changes."""

    def __init__(self, modulus, hands):
        require_modulus(modulus)
        require_hands(hands, MOST_HANDS, 0)
        self._modulus = modulus
        # By hands: names in dicts of True. By names: whether they are private numbers.
        self._held = {hand: {} for hand in hands}
        self._had = {hand: True for hand in hands}
        self._names = {}
        self._scenes = []

    @property
    def modulus(self):
        """The modulus."""
        return self._modulus

    def hands(self):
        """Return the sorted list of the present hands."""
        return sorted(self._held)

    def names(self):
        """Return the sorted list of all names that the history has had."""
        return sorted(self._names)

    def own_names(self):
        """Return the sorted list of the private numbers."""
        return [name for name in self.names() if self._names[name]]

    def held(self, hand):
        """Return the sorted list of the names that a present hand holds."""
        self._require_present(hand)
        return sorted(self._held[hand])

    def rounds(self):
        """Return the list of the ladders of the rounds."""
        return [scene.ladder for scene in self._scenes]

    def scenes(self):
        """Return the list of the rounds, each with what the present hands hold before it."""
        return list(self._scenes)

    def had_hands(self):
        """Return the sorted list of all hands that the history has had."""
        return sorted(self._had)

    def require_new(self, name):
        """Raise an error unless the value is a NAME that the history has not had."""
        if not is_name(name):
            raise InvalidName(name)
        if name in self._names:
            raise NameTaken(name)

    def own(self, hand, name):
        """Let a present hand hold a new private number."""
        self._require_present(hand)
        self.require_new(name)
        self._names[name] = True
        self._held[hand][name] = True

    def put(self, ladder):
        """Add a round, by which the holders of the outs of a ladder come to hold them."""
        self._require_possible(ladder)
        self._scenes.append(Scene(ladder, {hand: self.held(hand) for hand in self.hands()}))
        for name in ladder.doors.outs():
            self._names[name] = False
            for hand in ladder.doors.holders(name):
                self._held[hand][name] = True

    def drop(self, hand, name):
        """Let a present hand hold a name no longer."""
        self._require_present(hand)
        if not is_known(name, self._held[hand]):
            raise MissingName(name, hand)
        self._held[hand].pop(name)

    def stop(self, hand):
        """Let a present hand be present no longer."""
        self._require_present(hand)
        self._held.pop(hand)

    def enter(self, hand):
        """Let a new hand be present."""
        if not is_name(hand):
            raise InvalidName(hand)
        if hand in self._had:
            raise NameTaken(hand)
        if len(self._held) == MOST_HANDS:
            raise TooMany(MOST_HANDS)
        self._had[hand] = True
        self._held[hand] = {}

    def copied(self):
        """Return an equal history that changes for itself."""
        other = History(self._modulus, [])
        other._held = {hand: dict(names) for hand, names in self._held.items()}
        other._had = dict(self._had)
        other._names = dict(self._names)
        other._scenes = list(self._scenes)
        return other

    def _require_present(self, hand):
        if not is_known(hand, self._held):
            raise UnknownHand(hand)

    def _require_possible(self, ladder):
        """Raise an error unless a round with this ladder is possible now."""
        doors = ladder.doors
        if doors.modulus != self._modulus:
            raise OtherModulus(doors.modulus, self._modulus)
        for hand in doors.hands():
            self._require_present(hand)
        for name in doors.ins():
            for hand in doors.holders(name):
                if name not in self._held[hand]:
                    raise MissingName(name, hand)
        for name in doors.outs():
            if name in self._names:
                raise NameTaken(name)

    def __len__(self):
        return len(self._scenes)

    def __eq__(self, other):
        return (isinstance(other, History) and self._modulus == other._modulus and self._held == other._held
                and self._had == other._had and self._names == other._names and self._scenes == other._scenes)
