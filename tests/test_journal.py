"""Points 126 to 129 and 132: a journal, its versions, what is accepted and what is reverted."""

import itertools
import random
import unittest

from tests.test_asking import some_things
from tests.test_changes import NO_CHANGES, NOT_MADE, OAK, ROAD, THINGS, WELL, all_made, some_change, some_changes
from tests.test_shapes import FIELD, NO_MAPS, NO_NAMES, SIXTY, SPOT
from tests.tools import Case, ODD_VALUES
from trueatlas.changes import made, opposite, touched
from trueatlas.errors import BadValue, TooLarge
from trueatlas.journal import Journal

ASH = ("ash", "tree", ("point", (7, 7)))
MOVE = (("shift", "well", 1, 0),)
FULL = SIXTY[:60]
NO_VERSIONS = [-1, 10 ** 20, True, False, None, "0", "1", 1.0, (), (1,), [1]]


class Model:
    """A journal by the words of the points 126 to 129."""

    def __init__(self, things):
        self.maps, self.sets = [things], []

    def send(self, sent, after=None):
        hand, base, changes = sent
        if len(self.sets) == 200:
            raise TooLarge("versions")
        names = touched(changes)
        later = self.sets[base if after is None else after:]
        if any(name in others for _, others, _ in later for name in names):
            return None
        result = all_made(self.maps[-1], changes)
        if result is None:
            return None
        self.maps.append(result)
        self.sets.append((hand, tuple(names), changes))
        return len(self.sets)

    def revert(self, hand, version):
        back = opposite(self.maps[version - 1], self.sets[version - 1][2])
        return self.send((hand, len(self.sets), back), version)

    def hands(self):
        return [(hand, names) for hand, names, _ in self.sets]


class JournalCase(Case):

    def state(self, journal):
        """All that a journal tells."""
        return repr((journal.last(), journal.hands(), [journal.map_at(k) for k in range(journal.last() + 1)]))

    def refused(self, journal, sent):
        """The set is refused, and nothing changes."""
        before = self.state(journal)
        self.assertIsNone(journal.send(sent))
        self.assertEqual(self.state(journal), before)


class SendTest(JournalCase):

    def test_example(self):
        journal = Journal((WELL,))
        self.same(journal.send(("ann", 0, MOVE)), 1)
        self.same(journal.send(("bob", 0, (("add", OAK),))), 2)
        self.refused(journal, ("cid", 0, (("remove", "well"),)))
        self.same(journal.map_at(2), (OAK, ("well", "spring", ("point", (4, 4)))))
        self.same(journal.revert("ann", 1), 3)
        self.same(journal.map_at(3), (OAK, WELL))
        self.same(journal.hands(), [("ann", ("well",)), ("bob", ("oak",)), ("ann", ("well",))])

    def test_the_first_map(self):
        for things in ((), THINGS, FULL):
            journal = Journal(things)
            self.same((journal.last(), journal.map_at(0), journal.hands()), (0, things, []))

    def test_touched_after_the_base_and_before(self):
        journal = Journal(THINGS)
        self.same(journal.send(("ann", 0, MOVE)), 1)
        self.same(journal.send(("bob", 1, (("rekind", "road", "path"),))), 2)
        for changes in (MOVE, (("rename", "well", "z"),), (("remove", "well"),), (("reshape", "well", SPOT),),
                        (("rekind", "well", "sea"),), (("add", OAK), ("shift", "well", 0, 0))):
            self.refused(journal, ("cid", 0, changes))
        for base in (0, 1):
            self.refused(journal, ("cid", base, (("rename", "road", "z"),)))
        # The base is behind what touched the well, but before what touched the road.
        self.same(journal.send(("cid", 1, MOVE)), 3)
        self.refused(journal, ("cid", 1, MOVE))
        self.refused(journal, ("cid", 2, MOVE))
        self.same(journal.send(("cid", 3, MOVE)), 4)
        self.same(journal.map_at(4), (("road", "path", ROAD[2]), ("well", "spring", ("point", (6, 4)))))

    def test_a_name_that_was_gone(self):
        journal = Journal(THINGS)
        self.same(journal.send(("ann", 0, (("remove", "well"),))), 1)
        self.refused(journal, ("bob", 0, MOVE))
        self.same(journal.send(("bob", 1, (("rename", "road", "well"),))), 2)
        self.same(journal.map_at(2), (("well", "way", ROAD[2]),))

    def test_two_add_the_same_name(self):
        journal = Journal(())
        self.same(journal.send(("ann", 0, (("add", OAK),))), 1)
        self.refused(journal, ("bob", 0, (("add", OAK),)))
        self.refused(journal, ("bob", 0, (("add", ("oak", "a", SPOT)),)))

    def test_both_names_of_a_rename(self):
        for name in ("well", "oak"):
            journal = Journal(THINGS)
            self.same(journal.send(("ann", 0, (("rename", "well", "oak"),))), 1)
            changes = (("remove", "well"),) if name == "well" else (("add", OAK),)
            self.refused(journal, ("bob", 0, changes))
        self.same(journal.hands(), [("ann", ("oak", "well"))])

    def test_a_base_of_long_ago(self):
        journal = Journal(THINGS)
        for k in range(50):
            self.same(journal.send(("ann", k, MOVE)), k + 1)
        self.same(journal.send(("bob", 0, (("rekind", "road", "path"), ("shift", "road", 1, 1)))), 51)
        self.refused(journal, ("bob", 49, MOVE))
        self.same(journal.send(("bob", 50, MOVE)), 52)
        changes = (("rekind", "road", "path"), ("shift", "road", 1, 1), *MOVE)
        self.same(journal.map_at(52), made(journal.map_at(50), changes))
        self.same(journal.map_at(7), (ROAD, ("well", "spring", ("point", (10, 4)))))

    def test_too_many_things(self):
        journal = Journal(SIXTY[:59])
        self.same(journal.send(("ann", 0, (("add", OAK),))), 1)
        self.refused(journal, ("bob", 0, (("add", ASH),)))
        self.refused(journal, ("bob", 0, (("add", ASH), ("remove", "t00"))))
        self.same(journal.send(("bob", 0, (("remove", "t00"), ("add", ASH)))), 2)
        self.assertEqual(len(journal.map_at(2)), 60)
        # On the map of the last version it cannot be made itself.
        self.bad("sent", journal.send, ("bob", 2, (("add", SIXTY[0]),)))
        self.refused(journal, ("bob", 0, (("add", ("zoo", "k", SPOT)),)))
        self.same(journal.send(("bob", 2, (("remove", "t01"),))), 3)
        self.same(journal.send(("bob", 0, (("add", ("zoo", "k", SPOT)),))), 4)

    def test_what_comes_after_a_refused_set(self):
        journal = Journal(THINGS)
        journal.send(("ann", 0, MOVE))
        self.refused(journal, ("bob", 0, (("shift", "well", 0, 1), ("add", OAK))))
        # The refused set touched nothing.
        self.same(journal.send(("cid", 0, (("add", OAK),))), 2)
        self.same(journal.send(("cid", 1, MOVE)), 3)

    def test_one_and_twenty_changes(self):
        journal = Journal(THINGS)
        self.same(journal.send(("ann", 0, MOVE * 20)), 1)
        self.same(journal.map_at(1)[1], ("well", "spring", ("point", (23, 4))))
        self.bad("sent", journal.send, ("ann", 1, MOVE * 21))
        self.bad("sent", journal.send, ("ann", 1, ()))

    def test_as_the_document_tells(self):
        source = random.Random(126)
        counts = {"accepted": 0, "refused": 0, "reverted": 0, "kept": 0}
        for _ in range(25):
            things = some_things(source, source.randint(0, 5))
            journal, model = Journal(things), Model(things)
            for _ in range(25):
                base = max(0, journal.last() - source.choice((0, 0, 1, 2, 9)))
                hand = source.choice(("ann", "bob", "cid"))
                if source.random() < 0.3 and journal.last():
                    version = source.randint(max(1, journal.last() - 5), journal.last())
                    wanted = model.revert(hand, version)
                    self.same(journal.revert(hand, version), wanted)
                    counts["kept" if wanted is None else "reverted"] += 1
                else:
                    names = [thing[0] for thing in journal.map_at(base)] * 2 + ["a", "b"]
                    changes = some_changes(source, journal.map_at(base), source.choice((1, 1, 2)), names)
                    wanted = model.send((hand, base, changes))
                    self.same(journal.send((hand, base, changes)), wanted)
                    counts["refused" if wanted is None else "accepted"] += 1
            self.same(journal.hands(), model.hands())
            self.same([journal.map_at(k) for k in range(journal.last() + 1)], model.maps)
        self.assertGreater(min(counts.values()), 25)

    def test_what_a_hand_finds_again(self):
        source = random.Random(127)
        seen = 0
        for _ in range(40):
            journal = Journal(some_things(source, 5))
            for _ in range(12):
                base = source.randint(0, journal.last())
                names = [thing[0] for thing in journal.map_at(base)] * 2 + ["a", "b"]
                changes = some_changes(source, journal.map_at(base), source.choice((1, 2, 3)), names)
                version = journal.send(("ann", base, changes))
                if version is None:
                    continue
                seen += 1
                own, found = made(journal.map_at(base), changes), journal.map_at(version)
                for name in touched(changes):
                    self.same([thing for thing in found if thing[0] == name],
                              [thing for thing in own if thing[0] == name])
        self.assertGreater(seen, 100)

    def test_the_order_of_two_sets(self):
        source = random.Random(128)
        seen = 0
        while seen < 60:
            things = some_things(source, 6)
            names = [thing[0] for thing in things] * 2 + ["a", "b"]
            sets = [("ann", 0, some_changes(source, things, source.choice((1, 2)), names)) for _ in range(2)]
            if set(touched(sets[0][2])) & set(touched(sets[1][2])):
                continue
            seen += 1
            lasts = []
            for order in itertools.permutations(sets):
                journal = Journal(things)
                self.same([journal.send(sent) for sent in order], [1, 2])
                lasts.append(journal.map_at(2))
            self.same(lasts[0], lasts[1])

    def test_wrong_sets(self):
        journal = Journal(THINGS)
        journal.send(("ann", 0, MOVE))
        wrongs = ODD_VALUES + [(value, 0, MOVE) for value in NO_NAMES]
        wrongs += [("ann", value, MOVE) for value in NO_VERSIONS + [2]]
        wrongs += [("ann", 0, value) for value in NO_CHANGES + NOT_MADE if value != ()]
        wrongs += [("ann", 0, ()), ["ann", 0, MOVE], ("ann", 0), ("ann", 0, MOVE, None), (0, "ann", MOVE), MOVE,
                   ("ann", 0, MOVE[0]), ("ann", 0, list(MOVE)), (("ann", 0, MOVE),)]
        before = self.state(journal)
        for wrong in wrongs:
            self.bad("sent", journal.send, wrong)
        self.assertEqual(self.state(journal), before)
        self.same(journal.send(("ann", 1, MOVE)), 2)

    def test_of_another_version(self):
        journal = Journal(())
        journal.send(("ann", 0, (("add", OAK),)))
        self.bad("sent", journal.send, ("bob", 0, (("remove", "oak"),)))
        self.same(journal.send(("bob", 1, (("remove", "oak"),))), 2)
        self.bad("sent", journal.send, ("bob", 2, (("remove", "oak"),)))
        self.refused(journal, ("bob", 1, (("remove", "oak"),)))


class RevertTest(JournalCase):

    def test_again_and_again(self):
        journal = Journal(THINGS)
        self.same(journal.send(("ann", 0, (("shift", "well", 1, 0), ("rename", "well", "spa"), ("remove", "road")))), 1)
        self.same(journal.revert("bob", 1), 2)
        self.same(journal.map_at(2), THINGS)
        self.assertIsNone(journal.revert("bob", 1))
        self.same(journal.revert("ann", 2), 3)
        self.same(journal.map_at(3), journal.map_at(1))
        self.assertIsNone(journal.revert("bob", 2))
        self.same(journal.revert("cid", 3), 4)
        self.same(journal.map_at(4), THINGS)
        names = ("road", "spa", "well")
        self.same(journal.hands(), [("ann", names), ("bob", names), ("ann", names), ("cid", names)])

    def test_what_others_touched_since(self):
        journal = Journal(THINGS)
        journal.send(("ann", 0, MOVE))
        journal.send(("bob", 0, (("add", OAK),)))
        journal.send(("cid", 2, (("rename", "oak", "ash"),)))
        before = self.state(journal)
        self.assertIsNone(journal.revert("ann", 2))
        self.assertEqual(self.state(journal), before)
        self.same(journal.revert("ann", 1), 4)
        self.assertIsNone(journal.revert("ann", 1))
        self.same(journal.revert("ann", 3), 5)
        self.same(journal.map_at(5), (OAK, ROAD, WELL))
        # The names stand as they stood, but what was touched since was touched.
        self.assertIsNone(journal.revert("ann", 2))

    def test_a_set_with_an_earlier_base(self):
        journal = Journal(THINGS)
        journal.send(("ann", 0, (("reshape", "road", FIELD),)))
        self.same(journal.send(("bob", 0, (("shift", "well", 5, 5), ("rekind", "well", "a"), ("remove", "well")))), 2)
        self.same(journal.map_at(2), (("road", "way", FIELD),))
        self.same(journal.revert("ann", 2), 3)
        self.same(journal.map_at(3), (("road", "way", FIELD), WELL))

    def test_too_many_things(self):
        journal = Journal(FULL)
        self.same(journal.send(("ann", 0, (("remove", "t00"),))), 1)
        self.same(journal.send(("bob", 1, (("add", OAK),))), 2)
        before = self.state(journal)
        self.assertIsNone(journal.revert("ann", 1))
        self.assertEqual(self.state(journal), before)
        self.same(journal.revert("ann", 2), 3)
        self.same(journal.revert("bob", 1), 4)
        self.same(journal.map_at(4), FULL)

    def test_for_the_hand_that_reverts(self):
        journal = Journal(THINGS)
        journal.send(("ann", 0, MOVE))
        journal.revert("bob", 1)
        self.same(journal.hands()[1], ("bob", ("well",)))

    def test_refused(self):
        journal = Journal(THINGS)
        for wrong in NO_VERSIONS + [0, 1]:
            self.bad("version", journal.revert, "ann", wrong)
        journal.send(("ann", 0, MOVE))
        before = self.state(journal)
        wrongs = NO_VERSIONS + [0, 2]
        for hand in NO_NAMES:
            for version in (1, 0, None):
                self.bad("hand", journal.revert, hand, version)
        for wrong in wrongs:
            self.bad("version", journal.revert, "ann", wrong)
        self.assertEqual(self.state(journal), before)
        self.same(journal.revert("ann", 1), 2)


class VersionsTest(JournalCase):

    def full(self):
        """A journal with 200 versions behind the first one."""
        journal = Journal(THINGS)
        for k in range(200):
            self.assertEqual(journal.send(("ann", k, (("shift", "well", 1 - 2 * (k % 2), 0),))), k + 1)
        return journal

    def test_two_hundred(self):
        journal = self.full()
        self.same(journal.last(), 200)
        self.same(journal.map_at(200), THINGS)
        before = self.state(journal)
        # Sets that would be accepted, and sets that would be refused.
        for sent in (("ann", 200, MOVE), ("ann", 0, (("add", OAK),)), ("ann", 0, MOVE), ("ann", 199, MOVE)):
            with self.assertRaises(TooLarge) as caught:
                journal.send(sent)
            self.assertEqual(caught.exception.what, "versions")
        for version in (200, 199, 1):
            with self.assertRaises(TooLarge) as caught:
                journal.revert("bob", version)
            self.assertEqual(caught.exception.what, "versions")
        for sent in (("ann", 201, MOVE), ("ann", 0, ()), ("Ann", 0, MOVE), None, ("ann", 0, NOT_MADE[0])):
            self.bad("sent", journal.send, sent)
        self.bad("hand", journal.revert, "Bob", 200)
        self.bad("hand", journal.revert, None, 0)
        for version in (0, 201, -1, True, None):
            self.bad("version", journal.revert, "bob", version)
        self.bad("version", journal.map_at, 201)
        self.assertEqual(self.state(journal), before)

    def test_the_last_one_by_reverting(self):
        journal = Journal(THINGS)
        for k in range(199):
            journal.send(("ann", k, MOVE if k % 2 else (("shift", "well", -1, 0),)))
        self.assertIsNone(journal.revert("bob", 1))
        self.same(journal.revert("bob", 199), 200)
        with self.assertRaises(TooLarge):
            journal.revert("bob", 200)


class OtherTest(JournalCase):

    def test_map_at(self):
        journal = Journal(THINGS)
        journal.send(("ann", 0, MOVE))
        self.same([journal.map_at(k) for k in (0, 1)], [THINGS, made(THINGS, MOVE)])
        self.refuses(journal.map_at, ("version", 1, NO_VERSIONS + [2]))

    def test_lists_that_the_caller_changes(self):
        journal = Journal(THINGS)
        journal.send(("ann", 0, MOVE))
        before = self.state(journal)
        journal.hands().clear()
        journal.hands().append(("bob", ("road",)))
        self.assertEqual(self.state(journal), before)
        self.same(journal.send(("cid", 0, (("remove", "road"),))), 2)

    def test_journals_are_apart(self):
        first, second = Journal(THINGS), Journal(THINGS)
        first.send(("ann", 0, MOVE))
        self.same((second.last(), second.hands(), second.map_at(0)), (0, [], THINGS))

    def test_errors_between(self):
        source = random.Random(129)
        plain, with_errors = Journal(THINGS), Journal(THINGS)
        for _ in range(30):
            names = [thing[0] for thing in plain.map_at(plain.last())] + ["a", "b"]
            sent = ("ann", plain.last(), (some_change(source, names),))
            for wrong in (None, ("ann", 999, MOVE), ("ann", 0, (("remove", "nobody"),))):
                with self.assertRaises(BadValue):
                    with_errors.send(wrong)
            try:
                wanted = plain.send(sent)
            except BadValue:
                self.bad("sent", with_errors.send, sent)
            else:
                self.same(with_errors.send(sent), wanted)
        self.assertEqual(self.state(plain), self.state(with_errors))
        self.assertGreater(plain.last(), 5)

    def test_refused(self):
        self.refuses(Journal, ("map_things", THINGS, NO_MAPS))


if __name__ == "__main__":
    unittest.main()
