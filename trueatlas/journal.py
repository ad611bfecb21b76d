"""A journal: the versions of a map that many hands change."""

from trueatlas.changes import are_changes, map_and_opposite, names_touched
from trueatlas.checks import is_between, is_name, need
from trueatlas.errors import TooLarge
from trueatlas.shapes import is_map

MOST_VERSIONS = 200


class Journal:
    """A first map and the sets of changes that were accepted after it."""

    def __init__(self, map_things):
        need(is_map(map_things), "map_things")
        self._maps = [map_things]
        # For each version after the first one: whose set led to it, the touched names, and the changes back.
        self._hands = []
        self._opposites = []

    def send(self, sent):
        """The number of the new version if the set is accepted, otherwise None."""
        need(self._is_sent(sent), "sent")
        return self._take(sent[0], sent[1], sent[2])

    def map_at(self, version):
        """The map of the version."""
        need(is_between(version, 0, self.last()), "version")
        return self._maps[version]

    def last(self):
        """The number of the last version."""
        return len(self._hands)

    def hands(self):
        """The pairs of the hand and the touched names of the accepted sets, in their order."""
        return list(self._hands)

    def revert(self, hand, version):
        """Send the opposite of the set that led to the version; tells what "send" tells."""
        need(is_name(hand), "hand")
        need(is_between(version, 1, self.last()), "version")
        # The opposite touches the names of the set itself, so nobody may have touched them since the version.
        return self._take(hand, version, self._opposites[version - 1])

    def _is_sent(self, value):
        """Whether the value is a set of changes that a hand can have made on a version."""
        if not isinstance(value, tuple) or len(value) != 3:
            return False
        hand, base, changes = value
        if not is_name(hand) or not is_between(base, 0, self.last()) or not are_changes(changes) or not changes:
            return False
        return map_and_opposite(self._maps[base], changes) is not None

    def _take(self, hand, base, changes):
        """Accept or refuse changes that nobody may have interfered with after the base."""
        if self.last() == MOST_VERSIONS:
            raise TooLarge("versions")
        names = names_touched(changes)
        if any(name in others for _, others in self._hands[base:] for name in names):
            return None
        result = map_and_opposite(self._maps[-1], changes)
        if result is None:
            return None
        self._maps.append(result[0])
        self._opposites.append(result[1])
        self._hands.append((hand, tuple(names)))
        return self.last()
