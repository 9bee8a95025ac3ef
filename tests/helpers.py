"""What several tests use."""

import copy

from swarmwhole.errors import BadDescription, SwarmError

# One of each kind that a function described with "for any value" may be handed.
ANY_VALUES = (
    0, 1, -1, 255, 256, 2 ** 64, 1.0, 0.5, float("nan"), float("inf"), "", "a", "octets", True, False, None,
    (), (None,), ((),), [], [[]], [1, 2], (1, [2]), ([1],), (True,), (1.0,), ("a",), (1, (2, (3,))),
    ("int",), ("int", 1, 1), (1, 1), ["int", 1], (None, None), ("list", []), ("dict", {}), [("int", 1)],
)


def octets(text):
    """The octets of a string of any characters below 256, without the program's own functions."""
    return tuple(ord(character) for character in text)


def nested(deep, innermost):
    """Lists, so many deep, one in the other, around a tuple of items."""
    value = ("list", innermost)
    for _ in range(deep - 1):
        value = ("list", (value,))
    return value


def reason_of(function, *arguments):
    """The reason of the BadDescription that the call raises, or None if it returns."""
    try:
        function(*arguments)
    except BadDescription as error:
        return error.reason
    return None


def told(function, *arguments):
    """The class and the attributes of the error of the program that the call raises, or None if it returns."""
    try:
        function(*arguments)
    except SwarmError as error:
        return (type(error), *vars(error).values())
    return None


class Unchanged:
    """Fails the test if arguments are changed inside the `with`."""

    def __init__(self, case, *arguments):
        self.case = case
        self.arguments = arguments
        self.before = copy.deepcopy(arguments)

    def __enter__(self):
        return self

    def __exit__(self, *told):
        self.case.assertEqual(repr(self.arguments), repr(self.before))
