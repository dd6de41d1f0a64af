"""Values and checks that several test files need."""

from leastimage.books import Book
from leastimage.images import link
from leastimage.loading import Loaded
from leastimage.pieces import Piece

HALT = [("halt",)]


def code(name, rows=None, **more):
    """A code piece that only halts, if nothing else is said."""
    return Piece(name, "code", HALT if rows is None else rows, **more)


def data(name, rows=(), **more):
    """A data piece, without rows if nothing else is said."""
    return Piece(name, "data", rows, **more)


# Values of every kind that may be passed as any value; none of them is a
# name, a row, an object or a number from 0 on.
ODD_VALUES = [
    None,
    True,
    False,
    -1,
    "",
    " ",
    "R",
    "\n",
    (),
    [],
    (None,),
    [None],
    ((),),
    ([],),
    [[]],
    (True, False),
    ("halt", [("halt",)]),
    ((((("halt",),),),),),
    [[[[["a"]]]]],
    ["halt"],
    [("halt",)],
]


def all_odd_values():
    """The odd values with a piece alone and within tuples and a list."""
    piece = code("odd")
    return ODD_VALUES + [piece, (piece,), [piece], (piece, "halt")]


def raised(case, error, call, *values, **named):
    """The error of a class that a call raises, whose code must be right."""
    with case.assertRaises(error) as caught:
        call(*values, **named)
    case.assertIs(caught.exception.__class__, error)
    case.assertEqual(caught.exception.code, error.__name__)
    return caught.exception


def book_of(*parts):
    """The book of a text whose lines are told with semicolons between."""
    lines = [line.strip() for part in parts for line in part.split(";")]
    return Book.read("".join([line + "\n" for line in lines if line != ""]))


def image_in(*parts, roots=("main",), **more):
    """The image of the book of a text like that of book_of."""
    return link(book_of(*parts), list(roots), **more)


def loaded_in(*parts, base=16, **more):
    """The image of a text, loaded alone."""
    return Loaded(image_in(*parts, **more), bases=[base])
