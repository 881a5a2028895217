"""Promise 16: HOUSES, held against a plain reckoning with many OUTSIDES, and the guarantees."""

import unittest
from itertools import combinations, product

from tests import reckoning, samples
from tests.samples import MADE, SOUND
from whomheeds import houses
from whomheeds.errors import NoMember, Unfit


def subsets(numbers, most):
    return [some for many in range(most + 1) for some in combinations(numbers, many)]


def houses_of(council, most):
    """Of the HOUSES of this COUNCIL, with at most so many DOORS and SEEN ones, all."""
    firm = reckoning.firm_ones(council)
    return [(council, doors, seen) for doors in subsets(firm, most)
            for seen in subsets([k for k in range(len(council)) if k not in doors], most)]


def chosen(rows, many):
    return rows[::max(1, len(rows) // many)][:many]


COUNCILS = SOUND[::13] + MADE[::5] + [(0, 6, (0, 3), (1, 2)), (7,), (5, (0, 2), (1,)), (1, 2, (0, 1, 3), (0, 1, 2))]
HOUSES = [house for council in COUNCILS for house in chosen(houses_of(council, 2), 9)]
# A COUNCIL with every kind of OUTSIDE of two SEEN ones and two DOORS.
SMALL = [((0, 6), (0,), (1,)), ((0, (0,)), (0,), (1,)), ((0, 1, (0, 1)), (0,), (2,)), ((0, 1, (0, 1)), (0,), (1,)),
         ((0, 1, (0, 3), (1, 2)), (0,), (3,)), ((0, 1, (0, 3), (1, 2)), (1,), (3,))]
BORDERS = ((0, 0), (0, 1), (1, 0), (1, 1), (1, 2), (2, 1), (2, 2), (0, 2), (2, 0))
BY_BORDER = {border: [house for house in HOUSES + SMALL if (len(house[1]), len(house[2])) == border] for border in BORDERS}


def outsides(house, many=12):
    """HOUSES that fit, of all kinds."""
    return chosen(BY_BORDER[(len(house[2]), len(house[1]))], many)


def own_ones(house):
    return [k for k in reckoning.firm_ones(house[0]) if k not in house[1]]


def joined(one, other, links):
    """Both joined, as the document tells it: a list of the MEMBERS that stay, by side and number, and their COUNCIL."""
    both = (one, other)
    stands = {(side, both[side][1][door]): (1 - side, both[1 - side][2][seen]) for side, door, seen in links}
    stay = [(side, k) for side in (0, 1) for k in range(len(both[side][0])) if (side, k) not in stands]
    place = {key: at for at, key in enumerate(stay)}
    council = []
    for side, k in stay:
        part = both[side][0][k]
        council.append(part if isinstance(part, int) else
                       tuple(sorted({place[stands.get((side, goal), (side, goal))] for goal in part})))
    return stay, tuple(council), {key: place[stands.get(key, key)] for side in (0, 1) for key in
                                  [(side, k) for k in range(len(both[side][0]))]}


def all_links(one, other):
    return [(0, at, at) for at in range(len(one[1]))] + [(1, at, at) for at in range(len(other[1]))]


def together(house, outside):
    return joined(house, outside, all_links(house, outside))


def is_sound(council):
    return all(reckoning.firm_roads(council, k) for k in range(len(council)))


ENDS = {}


def all_ends(council):
    if council not in ENDS:
        ENDS[council] = sorted({reckoning.ends(row) for row in reckoning.followings(council)})
    return ENDS[council]


def letter_ends(house):
    council, doors, seen = house
    told = {door: ("door", at) for at, door in enumerate(doors)}
    told.update({own: ("own", at) for at, own in enumerate(own_ones(house))})
    return {tuple(told[ends[k]] for k in seen) for ends in all_ends(council)}


def border_wishes(house, outside, seed, many):
    """BORDER WISHES of both."""
    roll = samples.rolls(seed)
    inner = [("seen", at) for at in range(len(house[2]))]
    outer = [("out", k) for k in range(len(outside[0])) if k not in outside[1]]
    firm = [("own", at) for at in range(len(own_ones(house)))] + [("out", k) for k in own_ones(outside)]
    found = [()]
    for _ in range(many):
        told = inner + outer
        if told and firm:
            found.append(tuple((told[next(roll) % len(told)], firm[next(roll) % len(firm)], next(roll) % 7 - 3)
                               for _ in range(1 + next(roll) % 4)))
    return found


def wish_there(house, outside, wish):
    _, _, place = together(house, outside)
    member = {("seen", at): place[(0, k)] for at, k in enumerate(house[2])}
    member.update({("out", k): place[(1, k)] for k in range(len(outside[0]))})
    member.update({("own", at): place[(0, k)] for at, k in enumerate(own_ones(house))})
    return tuple((member[a], member[b], number) for a, b, number in wish)


def holds(house, outside, wish):
    _, council, _ = together(house, outside)
    return min(reckoning.wish_by(wish_there(house, outside, wish), ends) for ends in all_ends(council)) >= 0


def pairs_of_one_border():
    """Pairs of HOUSES of one border, unlike ones and alike ones."""
    for border, rows in BY_BORDER.items():
        for one, other in product(chosen(rows, 11), repeat=2):
            if len(own_ones(one)) == len(own_ones(other)):
                yield one, other


class Together(unittest.TestCase):

    def test_letter(self):
        for house in HOUSES + SMALL:
            self.assertIs(houses.is_house(house), True)
            right = (len(house[1]), len(own_ones(house)), tuple(sorted(letter_ends(house))))
            self.assertEqual(houses.letter(house), right)

    def test_put_together(self):
        sound = set()
        for house in HOUSES:
            for outside in outsides(house):
                _, council, place = together(house, outside)
                self.assertEqual(houses.put_together(house, outside), council)
                right = tuple(tuple(place[(side, k)] for k in range(len(part[0]))) for side, part in enumerate((house, outside)))
                self.assertEqual(houses.places_there(house, outside), right)
                for wish in border_wishes(house, outside, len(house[0]), 3):
                    self.assertEqual(houses.wish_there(house, outside, wish), wish_there(house, outside, wish))
                sound.add(is_sound(council))
        self.assertEqual(sound, {True, False})

    def test_unfit(self):
        for one in SMALL[:2] + HOUSES[::9]:
            for other in HOUSES[::4]:
                if len(one[1]) != len(other[2]) or len(one[2]) != len(other[1]):
                    for function, more in ((houses.put_together, ()), (houses.places_there, ()), (houses.wish_there, ((),))):
                        with self.assertRaises(Unfit):
                            function(one, other, *more)

    def test_a_house_of_doors_alone(self):
        self.assertEqual(houses.letter(((5, 6), (0, 1), ())), (2, 0, ((),)))
        outside = ((3, (0,)), (), (0, 1))
        self.assertEqual(houses.put_together(((5, 6), (0, 1), ()), outside), (3, (0,)))
        self.assertEqual(houses.places_there(((5, 6), (0, 1), ()), outside), ((0, 1), (0, 1)))
        self.assertEqual(houses.put_together(outside, ((5, 6), (0, 1), ())), (3, (0,)))

    def test_the_bounds(self):
        """Four DOORS, four SEEN ones, on both sides."""
        council = (1, 2, 3, 4, 9, (0, 6), (1, 5, 7), (2, 8), (3, 4))
        house = (council, (0, 1, 2, 3), (5, 6, 7, 8))
        right = (4, 1, tuple(sorted(letter_ends(house))))
        self.assertEqual(houses.letter(house), right)
        self.assertIs(houses.is_safe(house), True)
        outside = ((0, 0, 0, 0, 5, (0, 4), (1,), (2, 3), (4, 6)), (0, 1, 2, 3), (5, 6, 7, 8))
        _, both, _ = together(house, outside)
        self.assertEqual(houses.put_together(house, outside), both)
        other = ((1, 2, 3, 4, 9, (0, 6), (1, 5, 7), (2,), (3, 4)), (0, 1, 2, 3), (5, 6, 7, 8))
        self.assertEqual(houses.lets_no_more_outside(other, house), letter_ends(other) <= letter_ends(house))
        made = houses.parting_outside(house, other)
        self.assertIs(houses.is_parting_outside(house, other, made), True)
        self.assertTrue(holds(other, *made) and not holds(house, *made))


class Outside(unittest.TestCase):

    def test_lets_no_more(self):
        """By the guarantee; what parts them held against the words of the point."""
        seen = {True: 0, False: 0}
        for one, other in pairs_of_one_border():
            right = letter_ends(one) <= letter_ends(other)
            seen[right] += 1
            self.assertIs(houses.lets_no_more_outside(one, other), right)
            self.assertIs(houses.alike_outside(one, other), letter_ends(one) == letter_ends(other))
            made = houses.parting_outside(one, other)
            self.assertEqual(made is None, right)
            if made is not None:
                outside, wish = made
                self.assertIs(houses.is_house(outside), True)
                for house in (one, other):
                    self.assertTrue(is_sound(together(house, outside)[1]))
                self.assertTrue(holds(other, outside, wish))
                self.assertFalse(holds(one, outside, wish))
                self.assertIs(houses.is_parting_outside(one, other, made), True)
                self.assertIs(houses.is_parting_outside(other, one, made), False)
        self.assertGreater(min(seen.values()), 40)

    def test_wishes_with_many_outsides(self):
        """With all OUTSIDES tried, what holds with one that lets more holds with the other one."""
        tried = 0
        for seed, (one, other) in enumerate(pairs_of_one_border()):
            if one == other:
                continue
            lets = letter_ends(one) <= letter_ends(other)
            for outside in outsides(one, 5):
                if is_sound(together(one, outside)[1]) and is_sound(together(other, outside)[1]):
                    for wish in border_wishes(one, outside, seed, 4):
                        parted = holds(other, outside, wish) and not holds(one, outside, wish)
                        self.assertFalse(parted and lets)
                        self.assertIs(houses.is_parting_outside(one, other, (outside, wish)), parted)
                        tried += lets
        self.assertGreater(tried, 300)

    def test_an_outside_with_which_one_is_not_sound_parts_nothing(self):
        house, bare = (((1, 2), 0, 7), (1,), (0,)), (((1,), 0, 7), (1,), (0,))
        back = (((1,), 0), (1,), (0,))
        for wish in ((), ((("seen", 0), ("own", 0), -1),), ((("seen", 0), ("own", 0), 1),)):
            self.assertIs(houses.is_parting_outside(house, bare, (back, wish)), False)
            self.assertIs(houses.is_parting_outside(bare, house, (back, wish)), False)

    def test_unfit_of_another_border(self):
        pairs = [((5,), (), (0,)), ((5,), (0,), ()), ((5, 6), (), (0,)), ((5, 6), (0,), (1,)), ((5, 6, 7), (0,), (1,))]
        for one, other in product(pairs, repeat=2):
            if one != other:
                for function, more in ((houses.lets_no_more_outside, ()), (houses.alike_outside, ()),
                                       (houses.parting_outside, ()), (houses.is_parting_outside, (None,))):
                    with self.assertRaises(Unfit):
                        function(one, other, *more)

    def test_safe(self):
        seen = {True: 0, False: 0}
        for house in HOUSES + SMALL:
            own = set(own_ones(house))
            right = all(own & {road[-1] for road in reckoning.firm_roads(house[0], k)} for k in house[2])
            seen[right] += 1
            self.assertIs(houses.is_safe(house), right)
            made = houses.losing_outside(house)
            self.assertEqual(made is None, right)
            if made is not None:
                self.assertIs(houses.is_house(made), True)
                self.assertFalse(is_sound(together(house, made)[1]))
                self.assertIs(houses.is_losing(house, made), True)
            for outside in outsides(house):
                sound = is_sound(together(house, outside)[1])
                self.assertFalse(right and not sound)
                self.assertIs(houses.is_losing(house, outside), not sound)
        self.assertGreater(min(seen.values()), 20)


class Seen(unittest.TestCase):

    def firm_outsides(self, house):
        """The OUTSIDES whose SEEN ones are firm, with numbers at, beside and between those of the HOUSE, and further."""
        numbers = {n + more for n in house[0] if isinstance(n, int) for more in (-1, 0, 1)} or {0}
        numbers = sorted(numbers) + [max(numbers) + 50, min(numbers) - 50]
        doors, seen = len(house[1]), len(house[2])
        for row in chosen(list(product(numbers, repeat=doors)), 300):
            yield ((0,) * seen + row + (9,), tuple(range(seen)), tuple(range(seen, seen + doors)))

    def gaps(self, house, outside, one, other):
        """What one holds less what other does, by the ENDS of all FOLLOWINGS of both put together."""
        _, council, place = together(house, outside)
        a, b = place[(0, one)], place[(0, other)]
        return {council[ends[a]] - council[ends[b]] for ends in all_ends(council)} if is_sound(council) else set()

    def test_seen_alike_and_above(self):
        seen = {}
        for house in HOUSES[::2]:
            for one, other in product(house[2], repeat=2):
                gaps = set()
                for outside in list(self.firm_outsides(house)) + outsides(house, 8):
                    gaps |= self.gaps(house, outside, one, other)
                answer = (houses.seen_alike(house, one, other), houses.seen_above(house, one, other))
                self.assertEqual(answer, (gaps == {0}, min(gaps) >= 0))
                seen[answer + (one == other,)] = seen.get(answer + (one == other,), 0) + 1
        self.assertEqual(set(seen), {(True, True, True), (True, True, False), (False, True, False), (False, False, False)})

    def test_refused(self):
        house = ((0, 6, (0, 1), (0, 1), 3), (0,), (2, 3))
        for function in (houses.seen_alike, houses.seen_above):
            for one, other, number in ((-1, 5, -1), (5, -1, 5), (2, 5, 5), (0, -1, -1), (1, 5, 5)):
                with self.assertRaises(NoMember) as caught:
                    function(house, one, other)
                self.assertEqual(caught.exception.number, number)
            for one, other in ((0, 2), (2, 0), (2, 1), (4, 4)):
                with self.assertRaises(Unfit):
                    function(house, one, other)
            self.assertIs(function(house, 2, 2), True)


class Inside(unittest.TestCase):

    def test_needless_inside(self):
        seen = 0
        for house in HOUSES + SMALL:
            council, doors, members = house
            right = []
            for asker, goal in reckoning.arcs(council):
                rest = tuple(other for other in council[asker] if other != goal)
                narrow = council[:asker] + (rest,) + council[asker + 1:]
                if rest and is_sound(narrow) and letter_ends((narrow, doors, members)) == letter_ends(house):
                    right.append((asker, goal))
            seen += len(right)
            self.assertEqual(houses.needless_inside(house), right)
        self.assertGreater(seen, 30)

    def links_of(self, one, other, seed):
        roll = samples.rolls(seed)
        found = []
        for side, (own, far) in enumerate(((one, other), (other, one))):
            for door in range(len(own[1])):
                if far[2] and next(roll) % 3:
                    found.append((side, door, next(roll) % len(far[2])))
        return tuple(sorted(found))

    def test_joined(self):
        """The LETTER of the joined HOUSE is that of the joined LETTERS, and both are refused alike."""
        seen = {True: 0, False: 0}
        rows = HOUSES[::5] + SMALL
        for seed, (one, other) in enumerate(product(rows, rows[::2])):
            links = self.links_of(one, other, seed)
            stay, council, place = joined(one, other, links)
            sound = is_sound(council)
            seen[sound] += 1
            if not sound:
                for function, told in ((houses.joined_houses, (one, other)),
                                       (houses.joined_letters, (houses.letter(one), houses.letter(other)))):
                    with self.assertRaises(Unfit):
                        function(*told, links)
                continue
            both = (one, other)
            doors = tuple(at for at, (side, k) in enumerate(stay) if k in both[side][1])
            members = tuple(at for at, (side, k) in enumerate(stay) if k in both[side][2])
            self.assertEqual(houses.joined_houses(one, other, links), (council, doors, members))
            made = houses.joined_letters(houses.letter(one), houses.letter(other), links)
            self.assertEqual(made, (len(doors), len(own_ones((council, doors, members))),
                                    tuple(sorted(letter_ends((council, doors, members))))))
        self.assertGreater(min(seen.values()), 20)

    def test_links(self):
        one, other = ((0, 1, (0, 1), 7), (0, 1), (2,)), ((0, (0,), 5), (0,), (1, 2))
        self.assertEqual(houses.joined_houses(one, other, ()), ((0, 1, (0, 1), 7, 0, (4,), 5), (0, 1, 4), (2, 5, 6)))
        # Who asks both DOORS asks the SEEN one for whom both stand once.
        self.assertEqual(houses.joined_houses(one, other, ((0, 0, 1), (0, 1, 1))), (((4,), 7, 0, (2,), 5), (2,), (0, 3, 4)))
        self.assertEqual(houses.joined_letters(houses.letter(one), houses.letter(other), ((0, 0, 1), (0, 1, 1))),
                         (1, 2, ((("own", 1), ("door", 0), ("own", 1)),)))
        # A ring over both, that some own one saves.
        saved = ((0, (0, 2), 9), (0,), (1,))
        self.assertEqual(houses.joined_houses(saved, other, ((0, 0, 0), (1, 0, 0))), (((1, 2), 9, (0,), 5), (), (0, 2, 3)))
        self.assertEqual(houses.joined_letters(houses.letter(saved), houses.letter(other), ((0, 0, 0), (1, 0, 0))),
                         (0, 2, ((("own", 0), ("own", 0), ("own", 1)),)))


if __name__ == "__main__":
    unittest.main()
