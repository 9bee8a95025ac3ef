"""The names and arguments of the interface, where each of them is defined, and its examples."""

import importlib
import inspect
import unittest

from swarmwhole.digests import digest
from swarmwhole.errors import BadOctets, BadText
from swarmwhole.octets import as_octets, cut, from_hex, number_of, octets_of, text_of
from swarmwhole.values import decode, dict_of, encode

FUNCTIONS = {
    "octets": (
        "is_integer(value)", "is_octet(value)", "is_octets(value, *, size=None)", "octets_of(text)", "text_of(octets)",
        "number_of(octets)", "as_octets(number, *, size)", "hex_of(octets)", "from_hex(text)", "joined(parts)",
        "cut(octets, size)",
    ),
    "values": (
        "is_value(value)", "encode(value)", "decode(octets)", "decode_at(octets, place)", "entry(value, key)",
        "dict_of(pairs)",
    ),
    "sha": (
        "first_primes(count)", "cube_root(number)", "square_word(number)", "cube_word(number)", "start_words()",
        "round_words()", "rotated(word, count)", "padded(octets)", "block_words(block)", "expanded(words)",
        "compressed(state, words, rounds)", "sha(octets, start, rounds)",
    ),
    "digests": ("is_kind(value)", "digest(kind, octets)"),
    "trees": (
        "depth(count)", "root(hasher, pieces)", "proofs(hasher, pieces)", "fold(hasher, index, piece, proof)",
        "is_proof(hasher, count, value)", "fits(hasher, top, count, index, piece, proof)",
        "parted(hasher, pieces, index, piece, proof)",
    ),
    "descriptions": (
        "is_name(value)", "is_path(value)", "check_description(description)", "text_of(description)", "parse(octets)",
        "identity(description)", "total_length(description)", "piece_count(description)",
        "piece_length(description, index)", "places(description, index)", "pieces_of(description, file)",
    ),
    "content": (
        "describe(name, kind, size, files)", "cut(description, contents)", "join(description, pieces)",
        "fits(description, contents)", "whole_files(description, had)",
    ),
    "messages": (
        "is_message(description, value)", "message_octets(description, message)", "message_of(description, octets)",
        "most_octets(description)",
    ),
    "frames": ("frame(description, message)",),
    "store": ("disk_size(description)", "fits(hasher, description, index, octets, proof)"),
    "wishes": ("wanted(claims, held)", "choice(claims, held, fields, asked)"),
    "schedules": ("is_event(value)", "check_schedule(schedule)", "check_world(world, count)"),
    "judges": (
        "piece_fault(description, rows)", "kept_fault(rows)", "collisions(description, pieces, rows)",
        "told_fault(description, honest, rows)", "claim_fault(honest, rows)", "turn_fault(honest, rows, bound)",
        "lacking(description, honest, rows, tick)", "stuck(description, honest, rows, since, window)", "forgers(rows)",
        "judge(description, pieces, honest, rows, bound)",
    ),
    "cases": ("check_case(case)", "case_text(case)", "parse_case(octets)"),
    "reports": ("report(case)", "report_text(found)"),
    "jobs": ("job(octets)",),
    "leaves": ("leaves_of(hasher, pieces)", "root_of(hasher, leaves)", "proofs_of(hasher, leaves)"),
    "entries": ("check_entry(entry)", "entry_text(entry)", "entry_identity(entry)", "entry_of(octets)"),
    "histories": (
        "check_history(history)", "head(history)", "published(history, name, kind, size, files)",
        "relation(one, other)", "collided(one, other)",
    ),
    "plans": ("plan(old, had, new)", "made(old, had, new)", "fetched(rows)"),
    "keeper": ("keeper_size(size)",),
}

# Each class with what creates it and its methods.
CLASSES = {
    ("digests", "Hasher(kind)"): ("digest(octets)", "is_digest(value)"),
    ("frames", "Reader(description)"): ("feed(octets)", "fault()", "place()", "waiting()"),
    ("disk", "Disk(size)"): (
        "write(offset, octets)", "read(offset, count)", "sync()", "arm(count)", "pending()", "fall(kept)",
    ),
    ("store", "Store(disk, description)"): (
        "life()", "put(index, octets, proof)", "sync()", "had()", "held()", "piece(index)", "proof(index)",
        "complete()",
    ),
    ("turns", "Turns()"): ("step(wishing, given)", "leave(number)", "served()"),
    ("peer", "Peer(description, store, *, policy=None)"): (
        "takes(neighbour)", "connected(neighbour)", "broken(neighbour)", "received(neighbour, octets)", "tick()",
        "synced()", "deeds()", "events()",
    ),
    ("swarm", "Swarm(description, pieces, world, *, policies=None)"): (
        "tick(events)", "run(schedule)", "quiet(ticks)", "store(number)", "had(number)",
    ),
    ("logs", "Log()"): ("add(row)", "rows()"),
    ("histories", "Follower(history)"): ("history()", "forks()", "take(other)"),
    ("keeper", "Keeper(disk, size, history)"): (
        "version()", "serial()", "store()", "had()", "move(version)", "spread()",
    ),
    ("playing", "Plan(description, files, window)"): (
        "total()", "place()", "move(place)", "wanted()", "ahead()", "at(place)", "wants(claims, held)",
        "choose(claims, held, fields, asked)",
    ),
    ("players", "Player(plan, disk)"): ("place()", "play(store, rate)"),
}


class Interface(unittest.TestCase):
    def test_each_function_is_defined_in_its_file_with_its_arguments(self):
        for file, signatures in FUNCTIONS.items():
            module = importlib.import_module(f"swarmwhole.{file}")
            for signature in signatures:
                with self.subTest(file=file, signature=signature):
                    name = signature.partition("(")[0]
                    found = getattr(module, name)
                    self.assertTrue(inspect.isfunction(found))
                    self.assertEqual(found.__module__, module.__name__)
                    self.assertEqual(name + str(inspect.signature(found)), signature)

    def test_each_class_is_defined_in_its_file_with_its_methods(self):
        for (file, made), methods in CLASSES.items():
            module = importlib.import_module(f"swarmwhole.{file}")
            with self.subTest(file=file, made=made):
                name = made.partition("(")[0]
                found = getattr(module, name)
                self.assertTrue(inspect.isclass(found))
                self.assertEqual(found.__module__, module.__name__)
                self.assertEqual(name + str(inspect.signature(found)), made)
                for method in methods:
                    word, _, arguments = method.partition("(")
                    taken = f"(self, {arguments}".replace(", )", ")")
                    self.assertEqual(str(inspect.signature(vars(found)[word])), taken)


class Examples(unittest.TestCase):
    def test_octets(self):
        self.assertEqual(number_of((1, 0, 2)), 65538)
        self.assertEqual(as_octets(258, size=3), (0, 1, 2))
        self.assertRaises(BadOctets, as_octets, 256, size=1)
        self.assertEqual(cut((1, 2, 3, 4, 5), 2), [(1, 2), (3, 4), (5,)])
        self.assertRaises(BadOctets, from_hex, "0a1")

    def test_values(self):
        value = ("list", (("int", -70), ("octets", (97, 98))))
        self.assertEqual(text_of(encode(value)), "[n-70;o2:ab]")
        self.assertEqual(decode(octets_of("{o1:an0;}")), ("dict", (((97,), ("int", 0)),)))
        self.assertRaises(BadText, decode, octets_of("[n07;]"))
        found = dict_of([((98,), ("int", 1)), ((97,), ("int", 2))])
        self.assertEqual(found, ("dict", (((97,), ("int", 2)), ((98,), ("int", 1)))))

    def test_digests(self):
        self.assertEqual(digest(("sum", 2), (0, 255)), (4, 224))


if __name__ == "__main__":
    unittest.main()
