"""Points 600 to 603 and 609: connections, messages, and who is barred."""

import unittest

from swarmwhole.errors import DiskFell
from tests.helpers import Unchanged
from tests.peers import FIVE, Side, flags
from tests.samples import SHA, Sample

PLAIN = (("have", 1), ("wish",), ("nowish",), ("choke",), ("unchoke",), ("ask", 0), ("refuse", 2))
LATER_WORDS = ("have", "wish", "nowish", "choke", "unchoke", "ask", "refuse", "piece")


class PeerCase(unittest.TestCase):
    def check(self, side, deeds, events):
        self.assertEqual(side.did(), deeds)
        self.assertEqual(side.saw(), events)

    def closed(self, side, number, *events):
        """The neighbour was barred, with these events ahead of its connection's end."""
        self.check(side, [("close", number)], [*events, ("down", number)])
        self.assertIs(side.peer.takes(number), False)


class Connections(PeerCase):
    def test_601_hello_and_field_with_what_it_has(self):
        side = Side(0, 3)
        side.sample.put(side.store, 4)
        self.assertIsNone(side.peer.connected(7))
        self.check(side, [("send", 7, side.hello), ("send", 7, ("field", flags("x..x.")))], [("up", 7)])
        side.sync()
        side.peer.connected(2)
        self.check(side, [("send", 2, side.hello), ("send", 2, ("field", flags("x..xx")))], [("up", 2)])

    def test_601_of_other_descriptions(self):
        for sample in (Sample(3), Sample(40, kind=SHA, size=16)):
            side = Side(0, sample=sample)
            side.peer.connected(1)
            claims = (True,) + (False,) * (len(sample.pieces) - 1)
            self.check(side, [("send", 1, side.hello), ("send", 1, ("field", claims))], [("up", 1)])

    def test_600_takes(self):
        side = Side()
        self.assertIs(side.peer.takes(3), True)
        side.peer.connected(3)
        self.assertIs(side.peer.takes(3), False)
        self.assertIs(side.peer.takes(4), True)
        side.peer.broken(3)
        self.assertIs(side.peer.takes(3), True)

    def test_600_a_connection_that_ends(self):
        side = Side()
        side.join(3)
        self.assertIsNone(side.peer.broken(3))
        self.check(side, [], [("down", 3)])
        for number in (3, 9):
            self.assertIsNone(side.peer.broken(number))
            self.check(side, [], [])
            self.assertIs(side.peer.takes(number), True)

    def test_601_all_that_was_known_is_forgotten(self):
        side = Side(0)
        side.join(3, "xxxxx")
        side.say(3, ("wish",), ("unchoke",))
        self.assertEqual(side.tick()[0], [("send", 3, ("unchoke",)), ("send", 3, ("wish",)), ("send", 3, ("ask", 1))])
        side.peer.broken(3)
        side.clear()
        self.assertEqual(side.tick(), ([], []))
        side.join(3)
        self.assertEqual(side.tick(), ([], []))
        side.say(3, ("field", flags(".x...")))
        # It wishes anew, but it may not ask, is not wished of, and does not serve.
        self.assertEqual(side.tick()[0], [("send", 3, ("wish",))])
        side.say(3, ("ask", 0))
        self.assertEqual(side.did(), [("send", 3, ("refuse", 0))])
        side.say(3, ("unchoke",))
        self.assertEqual(side.tick()[0], [("send", 3, ("ask", 1))])

    def test_601_the_conversation_begins_again(self):
        side = Side()
        side.join(3, "xxxxx")
        side.say(3, (0, 0, 0))
        side.peer.broken(3)
        side.peer.connected(3)
        side.clear()
        side.say(3, side.hello, ("field", flags(".....")), ("wish",))
        self.assertEqual([event[2][0] for event in side.saw()], ["hello", "field", "wish"])

    def test_601_two_peers_know_nothing_of_each_other(self):
        one, other = Side(0), Side(1)
        one.join(3, "xxxxx")
        self.assertIs(other.peer.takes(3), True)
        self.check(other, [], [])
        self.assertEqual(other.tick(), ([], []))


class Messages(PeerCase):
    def test_609_each_message_is_got(self):
        side = Side(0)
        side.peer.connected(3)
        side.clear()
        messages = (side.hello, ("field", flags("x....")), *PLAIN, side.piece(4))
        for message in messages:
            side.say(3, message)
            self.assertEqual(side.saw(), [("got", 3, message)])
        self.assertIs(side.peer.takes(3), False)

    def test_602_each_message_in_each_state(self):
        hello, field = Side().hello, ("field", flags("xx..x"))
        states = ((), (hello,), (hello, field), (hello, field, ("wish",)), (hello, field, ("wish",), ("unchoke",)),
                  (hello, field, ("unchoke",)), (hello, field, ("wish",), ("unchoke",), ("choke",), ("nowish",)))
        for state in states:
            for ticks in (0, 1):
                for message in (hello, field, *PLAIN, ("ask", 4), Side().piece(0), Side().piece(3)):
                    with self.subTest(state=state, ticks=ticks, message=message):
                        self.one_message(state, ticks, message)

    def one_message(self, state, ticks, message):
        side = Side(0)
        side.peer.connected(3)
        side.say(3, *state)
        side.ticks(ticks)
        side.clear()
        side.say(3, message)
        due = ("hello", "field")[len(state):][:1] or LATER_WORDS
        if message[0] not in due:
            self.closed(side, 3, ("got", 3, None), ("told", 3))
            return
        deeds = []
        if message[0] == "ask":
            served = ticks == 1 and ("wish",) in state and ("nowish",) not in state
            answer = side.piece(0) if served and message[1] == 0 else ("refuse", message[1])
            deeds = [("send", 3, answer)]
        self.check(side, deeds, [("got", 3, message)])

    def test_602_many_in_one_chunk_and_one_in_many(self):
        messages = (("field", flags("xx...")), *PLAIN, ("ask", 4))
        due = [("got", 3, message) for message in messages]
        whole, parts = Side(0), Side(0)
        for side in (whole, parts):
            side.join(3)
        whole.say(3, *messages)
        for octet in parts.stream(*messages):
            self.assertIsNone(parts.peer.received(3, (octet,)))
        for side in (whole, parts):
            self.check(side, [("send", 3, ("refuse", 0)), ("send", 3, ("refuse", 4))], due)

    def test_602_nothing_comes_of_a_part_of_a_frame(self):
        side = Side(0)
        side.join(3)
        octets = side.stream(("field", flags("xxxxx")))
        side.peer.received(3, octets[:-1])
        self.check(side, [], [])
        self.assertEqual(side.tick(), ([], []))
        side.peer.received(3, octets[-1:])
        self.assertEqual(side.tick()[0], [("send", 3, ("wish",))])

    def test_602_field_and_have_are_claims(self):
        side = Side(0, 1, 2)
        side.join(3, "xxx..")
        self.assertEqual(side.tick()[0], [])
        side.say(3, ("unchoke",), ("have", 4))
        self.assertEqual(side.tick()[0], [("send", 3, ("wish",)), ("send", 3, ("ask", 4))])
        side.say(3, ("have", 3), ("have", 3), ("refuse", 4))
        self.assertEqual(side.tick()[0], [("send", 3, ("ask", 3))])

    def test_602_have_does_not_take_back_what_was_claimed(self):
        side = Side()
        side.join(3, "x....")
        side.say(3, ("have", 4), ("unchoke",))
        self.assertEqual(side.tick()[0], [("send", 3, ("wish",)), ("send", 3, ("ask", 0))])
        side.say(3, ("have", 0), side.piece(0))
        self.assertEqual(side.tick()[0], [("send", 3, ("ask", 4))])
        side.say(3, side.piece(4))
        self.assertEqual(side.tick()[0], [("send", 3, ("nowish",))])

    def test_602_choke_and_unchoke(self):
        side = Side()
        side.join(3, "xxxxx")
        self.assertEqual(side.tick()[0], [("send", 3, ("wish",))])
        side.say(3, ("unchoke",), ("choke",))
        self.assertEqual(side.tick()[0], [])
        side.say(3, ("unchoke",))
        self.assertEqual(side.tick()[0], [("send", 3, ("ask", 0))])
        side.say(3, ("unchoke",))
        self.assertEqual(side.tick()[0], [])
        # Nothing is asked of it any more, so that the same piece is asked for again.
        side.say(3, ("choke",))
        self.assertEqual(side.tick()[0], [])
        side.say(3, ("unchoke",))
        self.assertEqual(side.tick()[0], [("send", 3, ("ask", 0))])

    def test_602_what_a_choked_neighbour_was_asked_for_is_free_for_others(self):
        side = Side()
        side.join(1, "xxx..")
        side.join(2, "xxx..")
        side.say(1, ("unchoke",))
        self.assertEqual(side.tick()[0][2:], [("send", 1, ("ask", 0))])
        side.say(1, ("choke",))
        side.say(2, ("unchoke",))
        self.assertEqual(side.tick()[0], [("send", 2, ("ask", 0))])

    def test_602_refuse(self):
        side = Side()
        side.join(3, "x.x..")
        side.say(3, ("unchoke",))
        self.assertEqual(side.tick()[0][1:], [("send", 3, ("ask", 0))])
        for index in (1, 2, 4):
            side.say(3, ("refuse", index))
            self.assertEqual(side.tick()[0], [])
        side.say(3, ("refuse", 0))
        self.assertEqual(side.tick()[0], [("send", 3, ("ask", 0))])
        side.say(3, ("refuse", 0), ("refuse", 0))
        self.assertEqual(side.tick()[0], [("send", 3, ("ask", 0))])

    def test_602_a_piece_that_was_asked_for(self):
        side = Side()
        side.join(3, "xx...")
        side.say(3, ("unchoke",))
        side.tick()
        self.assertEqual(side.store.held(), ())
        side.say(3, side.piece(0))
        self.check(side, [], [("got", 3, side.piece(0))])
        self.assertEqual((side.store.held(), side.store.had()), ((0,), ()))
        self.assertEqual((side.store.piece(0), side.store.proof(0)), side.piece(0)[2:])
        self.assertEqual(side.tick()[0], [("send", 3, ("ask", 1))])

    def test_602_a_piece_that_was_not_asked_for(self):
        side = Side()
        side.join(3, "xx...")
        side.say(3, ("unchoke",))
        side.tick()
        for index in (4, 1):
            side.say(3, side.piece(index))
            self.check(side, [], [("got", 3, side.piece(index))])
        self.assertEqual(side.store.held(), (1, 4))
        # What was asked for is still asked for.
        self.assertEqual(side.tick()[0], [])
        side.say(3, side.piece(0))
        self.assertEqual(side.tick()[0], [("send", 3, ("nowish",))])

    def test_602_a_piece_ahead_of_the_wish_and_from_one_that_claims_nothing(self):
        side = Side()
        side.join(3, ".....")
        side.say(3, side.piece(2))
        self.assertEqual(side.store.held(), (2,))

    def test_602_a_piece_that_is_held_already(self):
        side = Side(0)
        side.join(3, "xxxxx")
        side.disk.arm(0)
        side.say(3, side.piece(0), ("wish",))
        self.check(side, [], [("got", 3, side.piece(0)), ("got", 3, ("wish",))])
        self.assertEqual(side.store.had(), (0,))


class Asks(PeerCase):
    def serving(self, *had):
        """A peer that serves the neighbour 3."""
        side = Side(*had)
        side.join(3, ".....")
        side.say(3, ("wish",))
        self.assertEqual(side.tick(), ([("send", 3, ("unchoke",))], [("got", 3, ("wish",)), ("turn", 3)]))
        return side

    def test_602_a_piece_with_its_proof(self):
        side = self.serving(0, 4)
        for index in (0, 4, 4):
            side.say(3, ("ask", index))
            self.check(side, [("send", 3, side.piece(index))], [("got", 3, ("ask", index))])

    def test_602_of_a_neighbour_that_is_not_served(self):
        side = self.serving(0, 4)
        side.join(2, ".....")
        for messages in ((), (("wish",),)):
            side.say(2, *messages, ("ask", 0))
            self.assertEqual(side.did(), [("send", 2, ("refuse", 0))])

    def test_602_of_a_piece_that_it_does_not_have(self):
        side = self.serving(0)
        side.say(3, ("ask", 1), ("ask", 0), ("ask", 3))
        self.assertEqual(side.did(),
                         [("send", 3, ("refuse", 1)), ("send", 3, side.piece(0)), ("send", 3, ("refuse", 3))])

    def test_602_of_a_piece_that_it_holds_and_does_not_have_yet(self):
        side = self.serving(0)
        side.say(3, side.piece(1), ("ask", 1))
        self.assertEqual(side.did(), [("send", 3, ("refuse", 1))])
        self.assertEqual(side.sync()[0], [("send", 3, ("have", 1))])
        side.say(3, ("ask", 1))
        self.assertEqual(side.did(), [("send", 3, side.piece(1))])

    def test_602_one_that_does_not_wish_any_more_is_served_until_the_end_of_the_tick(self):
        side = self.serving(0)
        side.say(3, ("nowish",), ("ask", 0))
        self.assertEqual(side.did(), [("send", 3, side.piece(0))])
        self.assertEqual(side.tick()[0], [("send", 3, ("choke",))])
        side.say(3, ("ask", 0))
        self.assertEqual(side.did(), [("send", 3, ("refuse", 0))])


class Barred(PeerCase):
    def test_602_another_version(self):
        for version in (0, 2, 255):
            side = Side()
            side.peer.connected(3)
            side.clear()
            message = ("hello", version, side.hello[2])
            side.say(3, message, ("field", flags("xxxxx")))
            self.closed(side, 3, ("got", 3, message))

    def test_602_another_identity(self):
        side = Side()
        side.peer.connected(3)
        side.clear()
        message = ("hello", 1, (side.hello[2][0], (side.hello[2][1] + 1) % 256))
        side.say(3, message)
        self.closed(side, 3, ("got", 3, message))
        side.peer.broken(3)
        self.check(side, [], [])

    def test_602_a_piece_that_does_not_fit(self):
        piece, proof = FIVE.pieces[1], FIVE.proofs[1]
        for message in (("piece", 1, piece[::-1], proof), ("piece", 0, piece, proof),
                        ("piece", 1, piece, proof[:2] + ((9, 9),))):
            for behind in ((), (("wish",),), ((0, 0, 0, 0),), (message,), ((0, 0, 0),)):
                side = Side()
                side.join(3, "xxxxx")
                side.say(3, ("have", 1), message, *behind)
                self.closed(side, 3, ("got", 3, ("have", 1)), ("got", 3, message), ("told", 3))
                self.assertEqual(side.store.held(), ())

    def test_602_one_that_does_not_fit_but_is_held(self):
        side = Side(1)
        side.join(3, "xxxxx")
        message = ("piece", 1, (0, 0, 0, 0), FIVE.proofs[1])
        side.say(3, message)
        self.closed(side, 3, ("got", 3, message), ("told", 3))
        self.assertEqual(side.store.piece(1), FIVE.pieces[1])

    def test_602_what_the_reader_refuses(self):
        wish = Side().stream(("wish",))
        faults = ((0, 0, 0, 0), (0, 0, 0, 200), (255, 0, 0, 1), (0, 0, 0, 1, 10), (0, 0, 0, 2, 3, 3),
                  (0, 0, 0, 5, 2, 0, 0, 0, 5), Side().stream(Side().hello), Side().stream(("field", flags("....."))))
        for fault in faults:
            for behind in ((), wish, wish * 2, fault):
                side = Side()
                side.join(3, "xxxxx")
                side.say(3, ("have", 1), fault + behind)
                self.closed(side, 3, ("got", 3, ("have", 1)), ("got", 3, None), ("told", 3))

    def test_602_out_of_order(self):
        side = Side()
        side.peer.connected(3)
        side.clear()
        side.say(3, ("wish",), side.hello)
        self.closed(side, 3, ("got", 3, None), ("told", 3))
        side.peer.connected(4)
        side.clear()
        side.say(4, side.hello, ("wish",), ("field", flags(".....")))
        self.closed(side, 4, ("got", 4, side.hello), ("got", 4, None), ("told", 4))

    def test_602_a_fault_that_comes_octet_by_octet(self):
        side = Side()
        side.join(3, "xxxxx")
        for octet in (0, 0, 0):
            side.peer.received(3, (octet,))
            self.check(side, [], [])
        side.peer.received(3, (0,))
        self.closed(side, 3, ("got", 3, None), ("told", 3))

    def test_603_a_fault_behind_a_wrong_piece_in_the_same_chunk_is_not_taken(self):
        side = Side()
        side.join(3, "xxxxx")
        message = ("piece", 1, (0, 0, 0, 0), FIVE.proofs[1])
        side.say(3, message, (0, 0, 0, 0))
        self.closed(side, 3, ("got", 3, message), ("told", 3))

    def test_603_barred_as_long_as_it_lives(self):
        side = Side(0)
        side.join(3, "xxxxx")
        side.join(4, ".....")
        side.say(3, ("wish",), (0, 0, 0, 0))
        side.clear()
        for _ in range(30):
            self.assertIs(side.peer.takes(3), False)
            side.peer.broken(3)
            self.assertEqual(side.tick(), ([], []))
        self.assertIs(side.peer.takes(5), True)

    def test_603_the_slots_of_one_that_is_barred_are_free(self):
        side = Side(0)
        for number in (3, 4):
            side.join(number, ".....")
            side.say(number, ("wish",))
        self.assertEqual(side.tick()[0], [("send", 3, ("unchoke",))])
        side.say(3, (0, 0, 0, 0))
        side.clear()
        self.assertEqual(side.tick(), ([("send", 4, ("unchoke",))], [("turn", 4)]))

    def test_603_what_was_sent_ahead_in_the_same_call_is_done_first(self):
        side = Side(0)
        side.join(3, ".....")
        side.say(3, ("ask", 0), ("ask", 1), (0, 0, 0, 0))
        self.assertEqual(side.did(), [("send", 3, ("refuse", 0)), ("send", 3, ("refuse", 1)), ("close", 3)])


class Syncs(PeerCase):
    def test_608_have_to_all_neighbours(self):
        side = Side(0)
        for number in (9, 2):
            side.join(number, ".....")
        side.join(5)
        side.say(9, side.piece(4))
        side.say(2, side.piece(1))
        side.clear()
        deeds, events = side.sync()
        self.assertEqual(deeds, [("send", number, ("have", index)) for index in (1, 4) for number in (2, 5, 9)])
        self.assertEqual(events, [("had", index, FIVE.pieces[index], FIVE.proofs[index]) for index in (1, 4)])
        self.assertEqual(side.store.had(), (0, 1, 4))
        self.assertEqual(side.sync(), ([], []))

    def test_608_nothing_to_sync(self):
        side = Side(0, 1)
        side.join(2, "xxxxx")
        side.disk.arm(0)
        self.assertIsNone(side.peer.synced())
        self.check(side, [], [])

    def test_608_without_neighbours(self):
        side = Side()
        side.join(2, "xxxxx")
        side.say(2, side.piece(3))
        side.peer.broken(2)
        side.clear()
        self.assertEqual(side.sync(), ([], [("had", 3, FIVE.pieces[3], FIVE.proofs[3])]))


class Falls(PeerCase):
    def test_609_a_fall_in_the_middle_of_received(self):
        for count in (0, 1, 2, 3):
            side = Side()
            side.join(3, "xxxxx")
            side.disk.arm(count)
            messages = (("have", 0), side.piece(0), side.piece(1), ("wish",))
            self.assertRaises(DiskFell, side.say, 3, *messages)
            got = 2 if count < 2 else 3
            self.assertEqual(side.saw(), [("got", 3, message) for message in messages[:got]])

    def test_609_a_fall_in_synced(self):
        side = Side()
        side.join(3, "xxxxx")
        side.say(3, side.piece(0))
        side.disk.arm(0)
        self.assertRaises(DiskFell, side.peer.synced)
        self.assertEqual(side.saw(), [("got", 3, side.piece(0))])

    def test_609_a_wrong_piece_is_told_on_a_disk_that_would_fall(self):
        side = Side()
        side.join(3, "xxxxx")
        side.disk.arm(0)
        message = ("piece", 1, (0, 0, 0, 0), FIVE.proofs[1])
        side.say(3, message)
        self.closed(side, 3, ("got", 3, message), ("told", 3))


class Lists(PeerCase):
    def test_609_new_lists_of_what_came_since_the_last_call(self):
        side = Side()
        self.assertEqual((side.peer.deeds(), side.peer.events()), ([], []))
        side.peer.connected(3)
        deeds, events = side.peer.deeds(), side.peer.events()
        self.assertEqual((len(deeds), len(events)), (2, 1))
        for found in (deeds, events):
            self.assertIsInstance(found, list)
            found.append("more")
        self.check(side, [], [])
        side.peer.broken(3)
        self.assertEqual((side.peer.deeds(), side.peer.events()), ([], [("down", 3)]))

    def test_609_a_deed_has_the_octets_of_a_frame(self):
        side = Side(0)
        side.peer.connected(3)
        self.assertEqual(side.peer.deeds(), [("send", 3, side.stream(side.hello)),
                                             ("send", 3, side.stream(("field", flags("x...."))))])

    def test_3_what_is_handed_over_stays_as_it_is(self):
        side = Side(0)
        octets = side.stream(side.hello, ("field", flags("xx...")), ("wish",), side.piece(1))
        with Unchanged(self, octets, FIVE.description):
            side.peer.connected(3)
            side.peer.received(3, octets)
            side.peer.tick()
            side.peer.synced()


if __name__ == "__main__":
    unittest.main()
