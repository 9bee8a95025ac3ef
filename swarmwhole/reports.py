"""Reports: what comes of a case (points 904 to 906)."""

from swarmwhole.cases import check_case
from swarmwhole.content import cut, describe, whole_files
from swarmwhole.descriptions import identity
from swarmwhole.forms import NOTHING, int_list, list_value, table_value, word_value
from swarmwhole.judges import collisions, forgers, judge, lacking
from swarmwhole.limits import TURN
from swarmwhole.swarm import Swarm
from swarmwhole.values import encode


def report(case):
    """The report of a case."""
    check_case(case)
    name, kind, size, files, world, schedule, quiet = case
    description = describe(name, kind, size, files)
    pieces = cut(description, tuple([octets for _, octets in files]))
    swarm = Swarm(description, pieces, world)
    swarm.run(schedule)
    swarm.quiet(quiet)
    honest = tuple([number for number, _ in world[0]])
    rows = swarm.log.rows()
    bound = TURN * (len(honest) + len(world[1]))
    return (
        identity(description),
        swarm.now,
        tuple([(number, swarm.had(number)) for number in honest]),
        tuple([(number, _files_of(description, number, rows)) for number in honest]),
        forgers(rows),
        tuple(judge(description, pieces, honest, rows, bound)),
        lacking(description, honest, rows, _last_tick(rows)),
        len(collisions(description, pieces, rows)),
    )


def _files_of(description, number, rows):
    """The whole files of a peer, made of what the log says that it has."""
    had = {row[3]: row[4] for row in rows if row[1] == number and row[2] == "had"}
    return whole_files(description, had)


def _last_tick(rows):
    # Without honest peers there are no rows, and nothing is lacking in any tick.
    return rows[-1][0] if len(rows) > 0 else 0


def report_text(found):
    """The octets of the text of a report."""
    top, ticks, had, files, told, faults, lacked, collided = found
    return encode(table_value({
        "collisions": ("int", collided),
        "faults": _plain_value(faults),
        "files": list_value([_files_value(number, whole) for number, whole in files]),
        "forgers": int_list(told),
        "had": _plain_value(had),
        "identity": ("octets", top),
        "lacking": ("int", lacked),
        "ticks": ("int", ticks),
    }))


def _files_value(number, whole):
    files = list_value([NOTHING if octets is None else ("octets", octets) for octets in whole])
    return list_value([("int", number), files])


def _plain_value(item):
    """The value of integers, strings and None, in tuples that are lists."""
    if item is None:
        return NOTHING
    if isinstance(item, str):
        return word_value(item)
    if isinstance(item, tuple):
        return list_value([_plain_value(inner) for inner in item])
    return ("int", item)
