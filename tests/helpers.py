"""What several test files use: values of every kind, errors as tuples, sample houses."""

import inspect


class Thing:
    """An object of a class that the program does not know."""


THING = Thing()

# Values of every kind, none of which is a name, a number, a deed, a move or a place.
ODD_VALUES = (
    None, True, False, 2.5, "", "A", "a b", "9a", "lock", "abcdefghi", b"a", [], ["a"], (), ([],), (["a"], "b"),
    {}, {"a": 1}, THING, Thing, len,
)
NO_NUMBERS = (None, True, False, "", "0", "1", [], [0], (), (0,), (None,), THING, 0.0)


def error_of(call, *told, **more):
    """The class name and the fields of the error that a call raises, in the order of making it."""
    from handsroom.errors import HandsError
    try:
        call(*told, **more)
    except HandsError as error:
        names = list(inspect.signature(type(error).__init__).parameters)[1:]
        if type(error) is HandsError or "args" in names:
            names = []
        return (type(error).__name__,) + tuple(getattr(error, name) for name in names)
    return None


# Houses that use, between them, every word of a row and every kind of deed.
BASIC = "\n".join([
    "lock a", "lock b", "kind box a size", "kind bag - left right", "body fill box* bag : +a +b a>b box.size bag.left",
    "body lend : +a +b =a =b", "routine r x:box y:box z:bag", "with take a as g, make x", "do copy y x, read x size",
    "close", "either", "do fetch x y, keep x size", "or", "do put y, write z right", "close", "drop g",
    "do call fill x z, skip", "done", "routine s u:bag", "block", "do call lend as h", "repeat", "do read u left",
    "close", "close", "do call lend, take b as k", "give k", "done",
])
WORDS = "\n".join([
    "lock m", "lock n", "kind box m size", "kind free - size", "body tidy box : +m +n m>n box.size free.size",
    "body share box* free : free.size", "body lend box : +m +n =m =n",
    "routine p a:box b:box c:free",
    "repeat", "with take m as g, read a size", "either", "do copy b a, keep a size", "drop g", "or",
    "do fetch b a, write b size", "close", "close", "block", "do call tidy b, skip", "close", "close",
    "do make a, put a", "do call share a c", "done",
    "routine q a:box c:free", "do make a, write a size", "do call lend a as h", "with call lend a", "do call tidy a",
    "close", "either", "do take n", "close", "do write c size, read a size", "give h", "done",
])
SETTLED = "\n".join([
    "lock m", "kind box m size", "kind bag - n", "body tidy : +m box.size", "routine r a:box b:box",
    "with take m", "do write a size, fetch b a", "do write b size", "close", "do call tidy, make a, write a size",
    "done",
])
# A house at its bounds: locks, kinds, fields, bodies, places, routines, names, rows, deeds and depth.
FULL = "\n".join([
    "lock a", "lock b", "lock c", "lock d", "kind k1 a f g", "kind k2 - f f2", "kind longname d k1",
    "body b1 k1 k1* k2* : +a +b +c +d a>b a>c a>d b>a b>c b>d c>a c>b c>d d>a d>b d>c k1.f k1.g k2.f k2.f2 "
    "longname.k1 =a =b =c =d", "body b2 : +d longname.k1", "body b3 k2 :",
    "routine r1 x:k1 y:k1 z:k2 longnam2:longname", "with take a", "block", "either", "repeat", "do call b1 x y z as g1",
    "drop g1", "close", "or", "repeat", "close", "close", "close", "close",
    "do skip, skip, make x, make y, make z, fetch x x y, copy y y, read x f, keep x g, write z f2, put y, call b2, "
    "call b3 z, take b as g2, take c as g3, take d, skip, skip, skip, skip",
    "block", "close", "block", "close", "block", "close", "either", "close", "drop g2", "give g3", "done",
    "routine r2 g1:k1", "done", "routine r3", "repeat", "close", "done", "routine r4 r4:k2", "do fetch r4", "done",
])
TEXTS = (BASIC, WORDS, SETTLED, FULL)
# A house of which the second routine has more than 600 spots in each of its tables.
LARGE_HOUSE = "\n".join(
    ["lock a", "kind k - n", "routine q x:k", "do read x n", "done", "routine r x:k y:k z:k w:k", "repeat"]
    + [row for deed in ("make x", "make y", "copy z x", "copy w z", "fetch x y", "put z")
       for row in ("either", "do " + deed, "close")] + ["close", "done"])
