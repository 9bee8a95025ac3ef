"""Points 403 to 407, and the heading swarmwhole/frames.py of the interface."""

import random
import unittest

from swarmwhole.content import cut
from swarmwhole.descriptions import identity
from swarmwhole.digests import Hasher
from swarmwhole.errors import BadDescription, BadMessage
from swarmwhole.frames import Reader, frame
from swarmwhole.messages import message_octets, message_of, most_octets
from swarmwhole.trees import proofs
from tests.helpers import ANY_VALUES, Unchanged
from tests.samples import SHA, WRONG_DESCRIPTIONS, content

# Five pieces, the last one of 3 octets, with digests of 2 octets and a tree 3 deep; and a single piece.
FIVE, FILES = content(9, 0, 10, kind=("sum", 2))
PIECES = cut(FIVE, FILES)
PROOFS = proofs(Hasher(("sum", 2)), PIECES)
ONE = content(3, kind=SHA)[0]
HELLO = ("hello", 1, identity(FIVE))
FIELD = ("field", (True, False, False, True, True))
LATER = (("have", 4), ("wish",), ("nowish",), ("choke",), ("unchoke",), ("ask", 0), ("piece", 2, PIECES[2], PROOFS[2]),
         ("refuse", 3), ("piece", 4, PIECES[4], PROOFS[4]), ("wish",))
TALK = (HELLO, FIELD) + LATER


def four(number):
    return tuple(number.to_bytes(4, "big"))


def stream_of(*messages, description=FIVE):
    return tuple(octet for message in messages for octet in frame(description, message))


def framed(octets):
    """A frame around any octets, without the program's own functions."""
    return four(len(octets)) + octets


def told(description, stream):
    """The messages, the fault, the place and what waits, as points 404 to 406 tell them, from a whole stream."""
    messages, start = [], 0
    while len(stream) - start >= 4:
        length = int.from_bytes(bytes(stream[start:start + 4]), "big")
        if length == 0 or length > most_octets(description):
            return messages, "length", start + 4, 0
        behind = start + 4 + length
        if behind > len(stream):
            break
        try:
            message = message_of(description, stream[start + 4:behind])
        except BadMessage:
            return messages, "message", behind, 0
        due = ("hello", "field")[len(messages):][:1]
        if (due and message[0] != due[0]) or (not due and message[0] in ("hello", "field")):
            return messages, "order", behind, 0
        messages.append(message)
        start = behind
    return messages, None, len(stream), len(stream) - start


def heard(description, chunks):
    """The same as a reader tells it, from chunks."""
    reader = Reader(description)
    messages = []
    for chunk in chunks:
        messages += reader.feed(chunk)
    return messages, reader.fault(), reader.place(), reader.waiting()


def cut_at(stream, places):
    """The chunks between these places, empty ones for places that stand there twice."""
    ends = sorted(places) + [len(stream)]
    return [stream[start:end] for start, end in zip([0] + ends, ends)]


class Frames(unittest.TestCase):
    def test_403_each_word(self):
        for message in TALK:
            with self.subTest(message), Unchanged(self, FIVE, message):
                octets = message_octets(FIVE, message)
                found = frame(FIVE, message)
                self.assertEqual(found, four(len(octets)) + octets)
                self.assertIsInstance(found, tuple)
        self.assertEqual(frame(FIVE, ("wish",)), (0, 0, 0, 1, 3))
        self.assertEqual(frame(FIVE, ("have", 4)), (0, 0, 0, 5, 2, 0, 0, 0, 4))
        self.assertEqual(frame(FIVE, FIELD), (0, 0, 0, 2, 1, 128 + 16 + 8))

    def test_403_the_length_has_the_greatest_octet_first(self):
        long = content(300, kind=("sum", 1), size=512)[0]
        message = ("piece", 0, (7,) * 300, ())
        self.assertEqual(frame(long, message), (0, 0, 1, 49, 8, 0, 0, 0, 0) + (7,) * 300)
        longer = content(65536, kind=("sum", 1), size=65536)[0]
        found = frame(longer, ("piece", 0, (7,) * 65536, ()))
        self.assertEqual(found[:9], (0, 1, 0, 5, 8, 0, 0, 0, 0))
        self.assertEqual(heard(longer,
                               [stream_of(("hello", 1, (1,)), ("field", (True,)), description=longer), found])[0][-1],
                         ("piece", 0, (7,) * 65536, ()))

    def test_403_what_is_no_message(self):
        for value in (*ANY_VALUES, ("wish", 1), ("have", 5), ("have", True), ("hello", 256, (1, 2)), ["wish"]):
            with self.subTest(value), Unchanged(self, value):
                self.assertRaises(BadMessage, frame, FIVE, value)

    def test_302_a_wrong_description_comes_first(self):
        for value, reason in WRONG_DESCRIPTIONS:
            for call in (lambda: frame(value, ("wish",)), lambda: frame(value, None), lambda: Reader(value)):
                with self.subTest(value), Unchanged(self, value), self.assertRaises(BadDescription) as caught:
                    call()
                self.assertEqual(caught.exception.reason, reason)


class WholeStreams(unittest.TestCase):
    def test_404_each_order_that_fits(self):
        for talk in ((), (HELLO,), (HELLO, FIELD), TALK, (HELLO, FIELD) + LATER * 3):
            stream = stream_of(*talk)
            self.assertEqual(heard(FIVE, [stream]), (list(talk), None, len(stream), 0))
        for message in LATER:
            stream = stream_of(HELLO, FIELD, message, message)
            self.assertEqual(heard(FIVE, [stream]), ([HELLO, FIELD, message, message], None, len(stream), 0))

    def test_407_any_identity_and_any_proof_are_read(self):
        talk = (("hello", 0, (0, 0)), FIELD, ("piece", 1, (9, 9, 9, 9), ((1, 1),) * 3))
        self.assertEqual(heard(FIVE, [stream_of(*talk)])[:2], (list(talk), None))

    def test_406_cut_at_one_place(self):
        stream = stream_of(*TALK)
        for place in range(len(stream) + 1):
            self.assertEqual(heard(FIVE, cut_at(stream, [place])), (list(TALK), None, len(stream), 0))

    def test_406_octet_by_octet_each_message_comes_with_its_last_octet(self):
        ends, place = {}, 0
        for message in TALK:
            place += len(frame(FIVE, message))
            ends[place] = (message,)
        reader = Reader(FIVE)
        for place, octet in enumerate(stream_of(*TALK)):
            self.assertEqual(reader.feed(()), ())
            self.assertEqual(reader.feed((octet,)), ends.get(place + 1, ()))
            self.assertIsNone(reader.fault())
            self.assertEqual(reader.place(), place + 1)

    def test_406_empty_chunks(self):
        reader = Reader(FIVE)
        for _ in range(3):
            self.assertEqual(reader.feed(()), ())
        self.assertEqual((reader.fault(), reader.place(), reader.waiting()), (None, 0, 0))

    def test_405_messages_come_as_a_tuple_in_order(self):
        reader = Reader(FIVE)
        self.assertEqual(reader.feed(stream_of(HELLO, FIELD) + (0, 0)), (HELLO, FIELD))
        self.assertEqual(reader.feed((0, 1, 3) + stream_of(*LATER)[:-1]), (("wish",),) + LATER[:-1])
        self.assertEqual(reader.feed((3,)), (("wish",),))

    def test_404_each_beginning_of_a_stream_fits(self):
        stream = stream_of(*TALK)
        for place in range(len(stream) + 1):
            messages, fault, read, waiting = heard(FIVE, [stream[:place]])
            self.assertEqual((fault, read), (None, place))
            self.assertEqual(len(stream_of(*messages)) + waiting, place)

    def test_two_readers_in_turn(self):
        one, other = Reader(FIVE), Reader(ONE)
        talk = (("hello", 3, (5,) * 24), ("field", (False,)), ("have", 0), ("piece", 0, (1, 2, 3), ()))
        streams = stream_of(*TALK), stream_of(*talk, description=ONE)
        found = [], []
        for place in range(max(len(stream) for stream in streams)):
            found[0].extend(one.feed(streams[0][place:place + 1]))
            found[1].extend(other.feed(streams[1][place:place + 1]))
        self.assertEqual(found, (list(TALK), list(talk)))
        self.assertEqual((one.fault(), other.fault()), (None, None))
        self.assertEqual((one.place(), other.place()), (len(streams[0]), len(streams[1])))


class Faults(unittest.TestCase):
    def check(self, stream, messages, fault, place, description=FIVE):
        """However the stream is cut, and whatever stands behind the fault."""
        due = (list(messages), fault, place, 0)
        self.assertEqual(told(description, stream), due)
        tail = stream_of(("wish",), ("have", 1), HELLO)
        for whole in (stream, stream + (0,), stream + tail):
            self.assertEqual(heard(description, [whole]), due)
            self.assertEqual(heard(description, [(octet,) for octet in whole]), due)
            self.assertEqual(heard(description, cut_at(whole, [place])), due)
            self.assertEqual(heard(description, cut_at(whole, [place - 1])), due)
        # Ahead of its last octet nothing is found.
        self.assertIsNone(heard(description, [stream[:place - 1]])[1])

    def test_405_a_length_of_0(self):
        for talk in ((), (HELLO,), (HELLO, FIELD), TALK):
            stream = stream_of(*talk)
            self.check(stream + (0, 0, 0, 0), talk, "length", len(stream) + 4)

    def test_405_a_length_that_is_too_great(self):
        for description in (FIVE, ONE):
            most = most_octets(description)
            for length in (most + 1, 256, 65536, 2 ** 24, 2 ** 32 - 1):
                self.check(four(length) + (8,) * 3, (), "length", 4, description)
            # The greatest length itself is none: a fault comes, if at all, with the last octet.
            self.assertEqual(heard(description, [four(most)]), ([], None, 4, 4))
            self.assertEqual(heard(description, [four(most) + (8,) * (most - 1)]), ([], None, most + 3, most + 3))
            self.check(four(most) + (200,) * most, (), "message", most + 4, description)

    def test_405_the_greatest_length_is_read(self):
        greatest = ("piece", 0, PIECES[0], PROOFS[0])
        self.assertEqual(len(message_octets(FIVE, greatest)), most_octets(FIVE))
        self.assertEqual(heard(FIVE, [stream_of(HELLO, FIELD, greatest)])[:2], ([HELLO, FIELD, greatest], None))

    def test_405_octets_of_no_message(self):
        wrong = ((10,), (255,), (3, 0), (2, 0, 0, 0, 5), (2, 0, 0, 1), (1, 128 + 4), (1, 0, 0), (0, 1), (0, 1, 2, 3, 4),
                 (8, 0, 0, 0, 0), (7, 0, 0, 0))
        for octets in wrong:
            for talk in ((), (HELLO,), (HELLO, FIELD), TALK):
                stream = stream_of(*talk)
                self.check(stream + framed(octets), talk, "message", len(stream) + 4 + len(octets))

    def test_405_no_hello_first(self):
        for message in (FIELD, *LATER):
            stream = stream_of(message)
            self.check(stream, (), "order", len(stream))

    def test_405_another_message_ahead_of_field(self):
        for message in (HELLO, ("hello", 0, (0, 0)), *LATER):
            stream = stream_of(HELLO, message)
            self.check(stream, (HELLO,), "order", len(stream))

    def test_405_hello_or_field_once_more(self):
        for message in (HELLO, FIELD, ("field", (False,) * 5), ("hello", 9, (9, 9))):
            for talk in ((HELLO, FIELD), TALK):
                stream = stream_of(*talk, message)
                self.check(stream, talk, "order", len(stream))

    def test_405_what_is_no_message_is_that_and_not_out_of_order(self):
        self.check(framed((3, 3)), (), "message", 6)
        self.check(stream_of(HELLO) + framed((0, 1)), (HELLO,), "message", len(stream_of(HELLO)) + 6)

    def test_405_behind_a_fault_everything_is_dropped(self):
        reader = Reader(FIVE)
        self.assertEqual(reader.feed(stream_of(HELLO, FIELD, ("wish",)) + (0, 0, 0, 0) + stream_of(("have", 1))),
                         (HELLO, FIELD, ("wish",)))
        for chunk in ((), (0,), stream_of(("wish",)), stream_of(*TALK), (0,) * 50, framed((99,))):
            self.assertEqual(reader.feed(chunk), ())
            self.assertEqual((reader.fault(), reader.waiting()), ("length", 0))
            self.assertEqual(reader.place(), len(stream_of(HELLO, FIELD, ("wish",))) + 4)


class Waiting(unittest.TestCase):
    def test_406_at_each_octet(self):
        reader = Reader(FIVE)
        for message in TALK:
            octets = frame(FIVE, message)
            for place, octet in enumerate(octets[:-1]):
                reader.feed((octet,))
                self.assertEqual(reader.waiting(), place + 1)
                self.assertLessEqual(reader.waiting(), most_octets(FIVE) + 3)
            reader.feed(octets[-1:])
            self.assertEqual(reader.waiting(), 0)

    def test_406_never_more_than_most_octets_and_3(self):
        for description in (FIVE, ONE):
            most = most_octets(description)
            reader = Reader(description)
            highest = 0
            for octet in four(most) + (8,) * most * 3:
                reader.feed((octet,))
                highest = max(highest, reader.waiting())
            self.assertEqual(highest, most + 3)
            self.assertEqual(reader.waiting(), 0)

    def test_406_a_chunk_with_ended_frames_and_a_beginning(self):
        reader = Reader(FIVE)
        reader.feed(stream_of(HELLO, FIELD) + (0, 0, 0))
        self.assertEqual(reader.waiting(), 3)
        reader.feed((5, 2, 0))
        self.assertEqual(reader.waiting(), 6)


class Drawn(unittest.TestCase):
    def streams(self, chance):
        """Conversations, with something changed in most of them."""
        parts = [frame(FIVE, message) for message in (HELLO,
                                                      FIELD) + tuple(chance.choices(LATER, k=chance.randrange(5)))]
        deed = chance.randrange(6)
        place = chance.randrange(len(parts))
        if deed == 0:
            parts.insert(place, chance.choice(parts))
        elif deed == 1:
            del parts[place]
        elif deed == 2:
            parts[place] = framed(tuple(chance.randrange(12) for _ in range(chance.randrange(20))))
        elif deed == 3:
            changed = list(parts[place])
            changed[chance.randrange(len(changed))] = chance.choice((0, 1, 2, 5, 16, 255))
            parts[place] = tuple(changed)
        elif deed == 4:
            parts[place] = parts[place][:chance.randrange(len(parts[place]))]
        return tuple(octet for part in parts for octet in part)

    def test_406_what_is_read_depends_on_the_stream_only(self):
        chance = random.Random(406)
        faults = set()
        for _ in range(1500):
            stream = self.streams(chance)
            due = told(FIVE, stream)
            faults.add(due[1])
            places = [chance.randrange(len(stream) + 1) for _ in range(chance.randrange(6))]
            self.assertEqual(heard(FIVE, [stream]), due)
            self.assertEqual(heard(FIVE, cut_at(stream, places)), due)
        self.assertEqual(faults, {None, "length", "message", "order"})


if __name__ == "__main__":
    unittest.main()
