"""Points 1004 to 1007, and the heading swarmwhole/histories.py of the interface."""

import itertools
import unittest

from swarmwhole.content import cut, describe
from swarmwhole.digests import Hasher, digest
from swarmwhole.entries import check_entry, entry_identity, entry_text
from swarmwhole.errors import BadContent, BadDescription, BadHistory
from swarmwhole.histories import Follower, check_history, collided, head, published, relation
from swarmwhole.leaves import leaves_of
from tests.helpers import ANY_VALUES, Unchanged, told
from tests.samples import NAME, SHA, SUMS, filling, path
from tests.versions import changed, files, history

ONE, TWO, THREE = files(a=9, b=0, c=10), files(a=9, c=(1, 2, 3)), files(d=5)
WHOLE = history(ONE, TWO, THREE)
# An entry of another kind, and values that are no entry, each with its reason.
OTHER = history(ONE, kind=("sum", 3))[0]
WRONG_ENTRIES = (
    (None, "form"), (5, "form"), ((), "form"), (list(WHOLE[1]), "form"), (changed(WHOLE[1], number=-1), "form"),
    (changed(WHOLE[1], before=None), "form"), (changed(WHOLE[1], description=None), "description"),
    (changed(WHOLE[1], files=()), "files"), (changed(WHOLE[1], leaves=()), "leaves"),
    (changed(WHOLE[1], leaves=WHOLE[0][4]), "leaves"),
)
WRONG_HISTORIES = (
    *[(value, -1, "form") for value in (None, 0, "abc", [], list(WHOLE), True, ())],
    *[((entry,), 0, reason) for entry, reason in WRONG_ENTRIES],
    *[((WHOLE[0], entry, WHOLE[2]), 1, reason) for entry, reason in WRONG_ENTRIES],
    (WHOLE[1:], 0, "number"), ((WHOLE[0], OTHER), 1, "kind"), ((WHOLE[0], WHOLE[2]), 1, "number"),
    ((WHOLE[0], changed(WHOLE[1], before=())), 1, "before"),
)


class Histories(unittest.TestCase):
    def wrong(self, number, reason, *values):
        for value in values:
            with self.subTest(value), Unchanged(self, value):
                for function in (check_history, head):
                    self.assertEqual(told(function, value), (BadHistory, number, reason))

    def test_1004_histories(self):
        for kind in (SHA, *SUMS):
            whole = history(ONE, TWO, THREE, kind=kind)
            for count in (1, 2, 3):
                with Unchanged(self, whole):
                    self.assertIsNone(check_history(whole[:count]))

    def test_1004_what_is_no_tuple_or_empty(self):
        self.wrong(-1, "form", *[value for value in ANY_VALUES if not isinstance(value, tuple) or value == ()],
                   list(WHOLE), {})

    def test_1004_each_reason_of_an_entry_at_each_place(self):
        for entry, reason in WRONG_ENTRIES:
            self.wrong(0, reason, (entry,), (entry, entry), (entry, *WHOLE[1:]))
            self.wrong(1, reason, (WHOLE[0], entry), (WHOLE[0], entry, None), (WHOLE[0], entry, WHOLE[2]))
            self.wrong(2, reason, WHOLE[:2] + (entry,))
        for value in ANY_VALUES:
            self.wrong(0, "form", (value,))
            self.wrong(3, "form", WHOLE + (value,))

    def test_1004_the_kind_is_that_of_the_first_one(self):
        whole = history(ONE, TWO, THREE, kind=("sum", 3))
        self.wrong(1, "kind", (WHOLE[0], whole[1]), (WHOLE[0], whole[1], WHOLE[2]), (whole[0], WHOLE[1]))
        self.wrong(2, "kind", WHOLE[:2] + whole[2:], WHOLE[:2] + (history(ONE, TWO, THREE, kind=SHA)[2],))

    def test_1004_the_number_is_the_place(self):
        for number in (1, 2, 10 ** 30):
            self.wrong(0, "number", (changed(WHOLE[0], number=number),))
        for number in (0, 2, 3):
            self.wrong(1, "number", (WHOLE[0], changed(WHOLE[1], number=number)))
        self.wrong(0, "number", WHOLE[1:], WHOLE[2:], WHOLE[::-1])
        self.wrong(1, "number", (WHOLE[0], WHOLE[0]), (WHOLE[0], WHOLE[2]))

    def test_1004_what_stands_before_is_the_identity_of_the_entry_ahead(self):
        due = digest(("sum", 2), entry_text(WHOLE[0]))
        self.assertEqual(WHOLE[1][1], due)
        self.wrong(0, "before", (changed(WHOLE[0], before=due),), (changed(WHOLE[0], before=(0,)),))
        for before in ((), due[:1], due + (0,), due[::-1], (due[0] ^ 1, due[1]), WHOLE[2][1]):
            self.wrong(1, "before", (WHOLE[0], changed(WHOLE[1], before=before)))
        self.wrong(1, "before", (history(TWO)[0], WHOLE[1]))
        self.wrong(2, "before", WHOLE[:2] + (changed(WHOLE[2], before=due),))

    def test_1004_the_first_reason_of_an_entry(self):
        other = history(ONE, TWO, kind=("sum", 3))[1]
        for items, reason in (
            ({"number": 7, "before": ()}, "number"), ({"before": ()}, "before"), ({"number": 7}, "number"),
        ):
            self.wrong(1, reason, (WHOLE[0], changed(WHOLE[1], **items)))
            self.wrong(1, "kind", (WHOLE[0], changed(other, **items)))
            self.wrong(1, "files", (WHOLE[0], changed(WHOLE[1], files=(), **items)),
                       (WHOLE[0], changed(other, files=(), **items)))

    def test_1004_the_first_entry_that_is_wrong(self):
        self.wrong(1, "before", (WHOLE[0], changed(WHOLE[1], before=()), None))
        self.wrong(1, "number", (WHOLE[0], WHOLE[2], OTHER, 5))
        self.wrong(0, "before", (changed(WHOLE[0], before=(0,)), WHOLE[1], None))

    def test_1004_the_first_one_of_two(self):
        for (one, number, reason), (other, *_) in itertools.product(WRONG_HISTORIES, WRONG_HISTORIES[::7]):
            for function in (relation, collided):
                with Unchanged(self, one, other):
                    self.assertEqual(told(function, one, WHOLE), (BadHistory, number, reason))
                    self.assertEqual(told(function, WHOLE, one), (BadHistory, number, reason))
                    self.assertEqual(told(function, one, other), (BadHistory, number, reason))

    def test_1004_followers_and_those_who_publish(self):
        for value, number, reason in WRONG_HISTORIES:
            self.assertEqual(told(Follower, value), (BadHistory, number, reason))
            if value != ():
                self.assertEqual(told(published, value, NAME, ("sum", 2), 4, ONE), (BadHistory, number, reason))

    def test_1005_the_head(self):
        for kind in (SHA, ("sum", 2)):
            whole = history(ONE, TWO, THREE, kind=kind)
            for count in (1, 2, 3):
                with Unchanged(self, whole):
                    self.assertEqual(head(whole[:count]), entry_identity(whole[count - 1]))
            self.assertEqual(whole[2][1], head(whole[:2]))


class Published(unittest.TestCase):
    def test_one_entry_more(self):
        for kind in (SHA, *SUMS):
            found = ()
            for number, held in enumerate((ONE, TWO, TWO, THREE, files(a=(), b=(1,)))):
                due = describe(NAME, kind, 8, held)
                hasher = Hasher(kind)
                entry = (number, head(found) if found else (), due, tuple(hasher.digest(octets) for _, octets in held),
                         leaves_of(hasher, cut(due, tuple(octets for _, octets in held))))
                with Unchanged(self, found, held):
                    longer = published(found, NAME, kind, 8, held)
                self.assertEqual(longer, found + (entry,))
                self.assertIsNone(check_entry(longer[-1]))
                self.assertIsNone(check_history(longer))
                found = longer

    def test_names_and_sizes_may_change(self):
        found = published(published((), (97,), ("sum", 2), 4, ONE), (98,), ("sum", 2), 64, ONE)
        self.assertEqual([entry[2][:3] for entry in found], [((97,), ("sum", 2), 4), ((98,), ("sum", 2), 64)])

    def test_another_kind(self):
        for count in (1, 2, 3):
            for kind in (("sum", 3), SHA, ("sum", 9), None, ["sum", 2], ("sum", "2")):
                self.assertEqual(told(published, WHOLE[:count], NAME, kind, 4, ONE), (BadHistory, count, "kind"))
        self.assertEqual(len(published((), NAME, ("sum", 3), 4, ONE)), 1)

    def test_what_describe_raises(self):
        for whole in ((), WHOLE):
            for items, due in (
                ((NAME, ("sum", 2), 4, None), (BadContent,)), ((NAME, ("sum", 2), 4, [ONE]), (BadContent,)),
                ((NAME, ("sum", 2), 4, ((path("a"), (256,)),)), (BadContent,)),
                (((), ("sum", 2), 4, None), (BadContent,)), (((), ("sum", 2), 5, ONE), (BadDescription, "name")),
                ((NAME, ("sum", 2), 5, ()), (BadDescription, "size")),
                ((NAME, ("sum", 2), 4, ()), (BadDescription, "files")),
                ((NAME, ("sum", 2), 4, ONE + ONE), (BadDescription, "files")),
                ((NAME, ("sum", 2), 4, files(a=())), (BadDescription, "total")),
            ):
                with Unchanged(self, whole, items):
                    self.assertEqual(told(published, whole, *items), due)
        self.assertEqual(told(published, (), NAME, ("sum", 9), 4, ONE), (BadDescription, "kind"))

    def test_which_error_comes_first(self):
        bad = (WHOLE[0], None)
        self.assertEqual(told(published, bad, (), None, 5, None), (BadHistory, 1, "form"))
        self.assertEqual(told(published, [], (), None, 5, None), (BadHistory, -1, "form"))
        self.assertEqual(told(published, WHOLE, (), ("sum", 3), 5, None), (BadHistory, 3, "kind"))
        self.assertEqual(told(published, WHOLE, (), ("sum", 2), 5, None), (BadContent,))
        self.assertEqual(told(published, WHOLE, (), ("sum", 2), 5, ()), (BadDescription, "name"))


class Relations(unittest.TestCase):
    def stands(self, one, other, due, back):
        with Unchanged(self, one, other):
            self.assertEqual(relation(one, other), due)
            self.assertEqual(relation(other, one), back)

    def test_1006_each_answer(self):
        self.stands(WHOLE, history(ONE, TWO, THREE), ("same",), ("same",))
        for long, short in ((3, 2), (3, 1), (2, 1)):
            self.stands(WHOLE[:long], WHOLE[:short], ("longer",), ("shorter",))
        for number, versions in enumerate(((TWO,), (ONE, ONE), (ONE, TWO, TWO))):
            for count in range(number + 1, 4):
                for more in ((), (THREE,), (THREE, ONE)):
                    fork = ("fork", number)
                    self.stands(WHOLE[:count], history(*versions, *more), fork, fork)

    def test_1006_histories_of_other_kinds(self):
        self.stands(WHOLE, history(ONE, TWO, THREE, kind=("sum", 3)), ("fork", 0), ("fork", 0))

    def test_1006_one_entry(self):
        self.stands(WHOLE[:1], WHOLE[:1], ("same",), ("same",))
        self.stands(WHOLE[:1], history(TWO), ("fork", 0), ("fork", 0))


def variants():
    """Versions enough, so that some of them have the same sum of one octet."""
    for first in range(4):
        for second in range(256):
            yield ((path("v"), (first, second)),)


class Collisions(unittest.TestCase):
    KIND = ("sum", 1)

    def history(self, *versions):
        return history(*versions, kind=self.KIND)

    def with_head(self, ahead, due, but=None):
        """A history that goes on from the one ahead, has this head, and does not end in this entry."""
        for version in variants():
            found = published(ahead, NAME, self.KIND, 4, version)
            if head(found) == due and found[-1] != but:
                return found
        raise AssertionError("none is found")

    def check(self, one, other, back):
        """The texts are those of the entries so far from the end."""
        self.assertEqual(head(one), head(other))
        self.assertNotEqual(one, other)
        texts = entry_text(one[-back]), entry_text(other[-back])
        with Unchanged(self, one, other):
            self.assertEqual(collided(one, other), texts)
            self.assertEqual(collided(other, one), texts[::-1])
        self.assertNotEqual(*texts)
        self.assertEqual(digest(self.KIND, texts[0]), digest(self.KIND, texts[1]))
        self.assertEqual(one[len(one) - back + 1:], other[len(other) - back + 1:])

    def test_1005_at_the_last_entry(self):
        for ahead in ((), self.history(ONE), self.history(ONE, TWO)):
            one = published(ahead, NAME, self.KIND, 4, THREE)
            self.check(one, self.with_head(ahead, head(one), one[-1]), 1)

    def test_1005_at_an_entry_ahead_of_it(self):
        one = self.history(ONE)
        other = self.with_head((), head(one), one[-1])
        for back, version in enumerate((TWO, THREE, THREE, ONE), 2):
            one, other = (published(whole, NAME, self.KIND, 4, version) for whole in (one, other))
            self.assertEqual(one[1:], other[1:])
            self.check(one, other, back)

    def test_1005_at_entries_with_another_number(self):
        short = self.history(ONE)
        for ahead in (self.history(TWO), self.history(ONE), self.history(ONE, TWO)):
            self.check(short, self.with_head(ahead, head(short)), 1)

    def test_1005_the_last_ones_that_differ(self):
        """Entries ahead of them differ, too."""
        one = self.history(ONE, TWO)
        other = self.with_head(self.history(THREE), head(one))
        self.check(one, other, 1)
        self.check(published(one, NAME, self.KIND, 4, ONE), published(other, NAME, self.KIND, 4, ONE), 2)

    def test_1005_none(self):
        one = self.history(ONE, TWO)
        for other in (one, self.history(ONE, TWO), one[:1], self.history(ONE, THREE), self.history(TWO, THREE)):
            if other == one or head(other) != head(one):
                self.assertIsNone(collided(one, other))
                self.assertIsNone(collided(other, one))
        self.assertIsNone(collided(WHOLE, WHOLE[:2]))
        self.assertIsNone(collided(WHOLE, WHOLE))

    def test_1005_histories_of_two_kinds(self):
        """The heads of short sums may be the same octets in no other kind: they have another size."""
        self.assertIsNone(collided(WHOLE, self.history(ONE, TWO, THREE)))
        self.assertIsNone(collided(self.history(ONE), history(ONE, kind=SHA)))


class Followers(unittest.TestCase):
    def test_1007_it_follows_longer_ones_only(self):
        follower = Follower(WHOLE[:1])
        self.assertEqual((follower.history(), follower.forks()), (WHOLE[:1], []))
        for other, due, followed in (
            (WHOLE[:1], ("same",), 1), (WHOLE[:2], ("longer",), 2), (WHOLE[:1], ("shorter",), 2),
            (WHOLE, ("longer",), 3), (WHOLE[:2], ("shorter",), 3), (WHOLE, ("same",), 3),
        ):
            with Unchanged(self, other):
                self.assertEqual(follower.take(other), due)
            self.assertEqual(follower.history(), WHOLE[:followed])
            self.assertEqual(follower.forks(), [])

    def test_1007_forks(self):
        follower = Follower(WHOLE[:2])
        one, two, three = history(ONE, THREE, ONE), history(TWO), history(ONE, TWO, TWO)
        self.assertEqual(follower.take(one), ("fork", 1))
        self.assertEqual(follower.history(), WHOLE[:2])
        self.assertEqual(follower.forks(), [(1, WHOLE[1], one[1])])
        self.assertEqual(follower.take(two), ("fork", 0))
        self.assertEqual(follower.take(WHOLE), ("longer",))
        self.assertEqual(follower.take(three), ("fork", 2))
        self.assertEqual(follower.history(), WHOLE)
        self.assertEqual(follower.forks(), [(1, WHOLE[1], one[1]), (0, WHOLE[0], two[0]), (2, WHOLE[2], three[2])])

    def test_1007_a_fork_of_another_kind(self):
        follower, other = Follower(WHOLE), history(ONE, kind=("sum", 3))
        self.assertEqual(follower.take(other), ("fork", 0))
        self.assertEqual(follower.forks(), [(0, WHOLE[0], other[0])])

    def test_1007_a_fork_that_is_seen_again(self):
        follower, other = Follower(WHOLE), history(TWO)
        follower.take(other)
        follower.take(other)
        self.assertEqual(follower.forks(), [(0, WHOLE[0], other[0])] * 2)

    def test_1007_a_new_list_with_each_call(self):
        follower = Follower(WHOLE)
        follower.take(history(TWO))
        first = follower.forks()
        first.clear()
        self.assertEqual(len(follower.forks()), 1)
        self.assertIsNot(follower.forks(), follower.forks())
        before = follower.forks()
        follower.take(history(THREE))
        self.assertEqual((len(before), len(follower.forks())), (1, 2))

    def test_1007_what_is_no_history_changes_nothing(self):
        follower = Follower(WHOLE[:2])
        follower.take(history(TWO))
        before = follower.history(), follower.forks()
        for value, number, reason in (*WRONG_HISTORIES, (WHOLE[:2] + (None,), 2, "form")):
            self.assertEqual(told(follower.take, value), (BadHistory, number, reason))
            self.assertEqual((follower.history(), follower.forks()), before)

    def test_1007_what_it_followed_is_the_beginning_of_what_it_follows(self):
        versions = (ONE, TWO, ((path("x"), filling(6)),))
        every = [history(*[versions[place] for place in places])
                 for count in (1, 2, 3) for places in itertools.product(range(3), repeat=count)]
        for first in every[:6]:
            follower, seen = Follower(first), [first]
            for other in every[::-2] + every[::3]:
                due = relation(other, follower.history())
                self.assertEqual(follower.take(other), due)
                seen.append(follower.history())
                self.assertEqual(seen[-1], other if due == ("longer",) else seen[-2])
            for place, whole in enumerate(seen[1:]):
                self.assertEqual(whole[:len(seen[place])], seen[place])


if __name__ == "__main__":
    unittest.main()
