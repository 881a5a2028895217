"""Things of all kinds for is_.. functions, and how the tests hold these against a plain telling."""

import unittest


def nested(depth):
    thing = ()
    for _ in range(depth):
        thing = (thing,)
    return thing


KINDS = [True, False, None, "", "a", "asks 0 1", 0, 1, 2, -1, 10 ** 40, -10 ** 40, (), [], ((),), [()], ([],), [[]],
         (None,), (True,), (False,), ("",), ("ab",), (0,), [0], (1,), (-1,), (0, 0), (0, 1), (1, 0), ((0,),), ((1,),),
         ((0, 1),), ((0,), 1), (((0,), 1),), ((), ()), ((0,), (0,)), ((1,), (0,)), (((), 1),), ((True, 1),),
         nested(11), [nested(10)], (5, nested(10)), ((((0,),),),), (1,) * 3000, ((1,),) * 3000, tuple(range(3000))]
PARTS = [True, False, None, "a", -1, 0, 1, 2, 3, 10 ** 31, (), [], (0,), (1, 1), [1]]


def spoilt(thing):
    """Things that are nearly this one: at one place something else, or a part less, twice, or changed in order."""
    for part in PARTS:
        yield part
    if isinstance(thing, int):
        yield from (thing + 1, thing - 1, -thing, thing * 2, str(thing), thing == 1)
    if isinstance(thing, tuple):
        yield list(thing)
        yield thing + thing
        yield thing[::-1]
        for place, part in enumerate(thing):
            front, back = thing[:place], thing[place + 1:]
            yield front + back
            yield front + (part, part) + back
            yield front + back + (part,)
            for near in spoilt(part):
                yield front + (near,) + back
        for part in PARTS:
            yield thing + (part,)


def tried(*right):
    """All kinds of things, the right ones and things nearly like them, each once."""
    things = list(KINDS)
    for thing in right:
        things.append(thing)
        things.extend(spoilt(thing))
    return {repr(thing): thing for thing in things}


class Case(unittest.TestCase):

    def check(self, function, arguments, right, is_right):
        """Holds the function against a plain telling of what is right, given the thing and its repr."""
        found = 0
        for text, thing in tried(*right).items():
            answer = function(*arguments, thing)
            if answer is not is_right(thing, text):
                self.fail(f"{function.__name__}{arguments!r} tells {answer!r} of {text}")
            found += answer
        self.assertGreaterEqual(found, len(set(map(repr, right))))

    def check_one_of(self, function, arguments, rights):
        texts = {repr(thing) for thing in rights}
        self.check(function, arguments, rights, lambda thing, text: text in texts)
