"""What several tests share: webs and plans of the document, wrong values, strict comparison."""

import unittest

from lookundone.errors import NotUsable

ROW = ((0, 1, 2), ((0, 1), (1, 2)), (0,), (2,))
TRI = ((0, 1, 2), ((0, 1), (0, 2), (1, 2)), (0,), (2,))
PLUS = ((0, 1), ((0, 1),), (), (1,))
LINE = ((0, 1, 2, 3), ((0, 1), (1, 2), (2, 3)), (0,), (3,))
EMPTY = ((), (), (), ())
H = (1, 1, 1, (((1, 0, 0, 0), (1, 0, 0, 0)), ((1, 0, 0, 0), (-1, 0, 0, 0))))
ONE_WIRE = (1, 1, 0, (((1, 0, 0, 0), (0, 0, 0, 0)), ((0, 0, 0, 0), (1, 0, 0, 0))))
TWO = (1, 0, 1, (((1, 0, 0, 0),), ((0, 1, 0, -1),)))
NO_WIRES = (0, 0, 0, (((1, 0, 0, 0),),))
STEP = ((0,), (1,), (("new", 1), ("tie", 0, 1), ("look", 0, 7, (), ()), ("flip", 1, (0,))), (0,))
TWICE = (
    (0,), (2,),
    (
        ("new", 1), ("tie", 0, 1), ("look", 0, 1, (), ()), ("new", 2), ("tie", 1, 2), ("look", 1, 2, (0,), (0,)),
        ("flip", 2, (1,)),
    ),
    (0,),
)
HALF = (ROW, (1, 2, 0), ((), (0,)), ((1,),), ((0,),))
SEEN = ((0, 1), ((0, 1),), (0,), (0,))
FAIR = ((0, 1, 2, 3, 4, 5), ((0, 2), (0, 3), (0, 5), (1, 3), (1, 4), (2, 5), (4, 5)), (), (0, 4))

# Values that are none of the kinds that have parts, whatever the kind.
NEVER = (None, True, False, 0, 1, -1, 10 ** 59, "", "a", (), [], (None,), ((),), [()])


# All signs of which strings consist, but for the newline.
ALL_SIGNS = [chr(k) for k in range(32, 127) if chr(k) != "%"]


def nested(deep, kind=tuple):
    """Tuples or lists nested so deep."""
    thing = kind()
    for _ in range(deep - 1):
        thing = kind([thing])
    return thing


ANY_VALUES = NEVER + (
    True,
    -(10 ** 59),
    10 ** 60 - 1,
    "part p a\nend",
    "x" * 8000,
    (0, 1),
    [0, 1],
    (0, 1, 2),
    (0, 1, 2, 3),
    [0, 1, 2, 3],
    (0, 0, 0, 0),
    ("a", "b"),
    ("h", 0),
    ((), (), (), ()),
    [[], [], [], []],
    (((), (), (), ()), ()),
    (1, (("h", 0),)),
    (None, None, None, None),
    ("", "", "", ""),
    nested(30),
    nested(30, list),
    tuple(range(5000)),
    (True, False),
)


def wrong_places(thing, others):
    """All values that are thing with one value in it, at any depth, exchanged for each of the others, or a list."""
    if not isinstance(thing, tuple):
        return
    yield list(thing)
    yield thing + (None,)
    yield (None,) + thing
    for k, part in enumerate(thing):
        yield thing[:k] + thing[k + 1:]
        for other in others:
            if repr(other) != repr(part):
                yield thing[:k] + (other,) + thing[k + 1:]
        for wrong in wrong_places(part, others):
            yield thing[:k] + (wrong,) + thing[k + 1:]


def is_plain(thing):
    """True if thing is an int, a bool, None, a string or a tuple of these."""
    if isinstance(thing, tuple):
        return type(thing) is tuple and all(is_plain(part) for part in thing)
    return thing is None or type(thing) in (int, bool, str)


class StrictCase(unittest.TestCase):
    """Compares kinds, too: True is not 1, a list is no tuple."""

    def same(self, found, wanted, told=None):
        self.assertTrue(is_plain(found), (told, found))
        self.assertEqual(repr(found), repr(wanted), told)

    def raises(self, error, fields, call, *rest, **more):
        """The call must raise just this error with just these fields."""
        with self.assertRaises(error) as caught:
            call(*rest, **more)
        self.assertIs(type(caught.exception), error)
        self.assertEqual(repr(vars(caught.exception)), repr(fields))

    def refuses(self, word, call, *rest, **more):
        """The call must raise NotUsable for the parameter of this name."""
        with self.assertRaises(NotUsable) as caught:
            call(*rest, **more)
        self.assertIs(type(caught.exception), NotUsable)
        self.assertEqual((caught.exception.word, caught.exception.at), (word, -1), (rest, more))
        self.assertIs(type(caught.exception.at), int)
