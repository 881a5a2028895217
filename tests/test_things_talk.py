"""Promise 2 at each is_.. function of pulls, houses, buyers and rounds: things of all kinds, and things nearly right."""

import unittest
from fractions import Fraction

from tests import claims, reckoning, samples, test_buyers, test_houses, test_rounds, trying
from tests.reckoning import pair
from whomheeds import buyers, houses, pulls, rounds

RING = (0, 6, (0, 3), (1, 2), (3,), (0, 1))
SOME = list(enumerate(samples.SOUND[::41] + samples.MADE[::13] + [(7,), (0, 6, (0, 3), (1, 2)), RING]))


def is_set(x):
    return type(x) is tuple and all(map(reckoning.is_number, x)) and list(x) == sorted(set(x))


def is_wish(council, x):
    if type(x) is not tuple:
        return False
    for part in x:
        if type(part) is not tuple or len(part) != 3 or not all(map(reckoning.is_number, part)):
            return False
        if not 0 <= part[0] < len(council) or part[1] not in reckoning.firm_ones(council):
            return False
    return True


class Pulls(trying.Case):

    def test_is_pull_paper(self):
        for seed, council in SOME:
            for asker in reckoning.askers(council)[:2]:
                member = (asker + 1) % len(council)
                rows = [samples.weights_for(council, seed + more) for more in range(2)]
                rows.append(samples.rows_for(council, 1, 10 ** 70, 5))
                for word in ("up", "down", "none"):
                    right = [row for row in rows if self.is_paper(council, asker, member, word, row)]
                    self.check(pulls.is_pull_paper, (council, asker, member, word), right,
                               lambda thing, text: self.is_paper(council, asker, member, word, thing))

    def is_paper(self, council, asker, member, word, x):
        if not reckoning.is_weights(council, x):
            return False
        voice = reckoning.voice(council, x)
        more = voice[member] - voice[asker]
        return {"up": more <= 0, "down": more >= 0, "none": more != 0}[word]

    def test_is_weights_apart(self):
        for seed, council in SOME:
            for asker in reckoning.askers(council)[:2]:
                weights = samples.weights_for(council, seed)
                row = tuple(n + 3 * k * k + 1 for k, n in enumerate(weights[asker]))
                told = (weights, weights[:asker] + (row,) + weights[asker + 1:])
                member = (asker + seed) % len(council)
                right = [told, told[::-1]] if self.are_apart(council, asker, member, told) else []
                self.check(pulls.is_weights_apart, (council, asker, member), right,
                           lambda thing, text: self.are_apart(council, asker, member, thing))

    def are_apart(self, council, asker, member, x):
        if type(x) is not tuple or len(x) != 2 or not all(reckoning.is_weights(council, part) for part in x):
            return False
        if any(x[0][k] != x[1][k] for k in range(len(council)) if k != asker):
            return False
        return reckoning.voice(council, x[0])[member] != reckoning.voice(council, x[1])[member]

    def test_is_parting_wish(self):
        pairs = [(RING, RING[:2] + ((0,),) + RING[3:]), (RING[:4], (0, 6, (0,), (1, 2))), ((0, 6, (0, 1)), (3, 3, (0,)))]
        for one, other in pairs:
            for wish in (pulls.parting_wish(one, other), ((2, 1, -1),), ((2, 1, -10 ** 40), (2, 0, 0), (2, 1, 1))):
                self.assertTrue(self.parts(one, other, wish))
                self.check(pulls.is_parting_wish, (one, other), [wish], lambda thing, text: self.parts(one, other, thing))
                self.check(pulls.is_parting_wish, (other, one), [], lambda thing, text: self.parts(other, one, thing))

    def parts(self, one, other, x):
        return is_wish(one, x) and min(reckoning.wishes(other, x)) >= 0 > min(reckoning.wishes(one, x))


class Houses(trying.Case):

    def is_house(self, x):
        if type(x) is not tuple or len(x) != 3 or not reckoning.is_council(x[0]):
            return False
        council, doors, seen = x
        if not all(reckoning.firm_roads(council, k) for k in range(len(council))) or not is_set(doors) or not is_set(seen):
            return False
        return set(doors) <= set(reckoning.firm_ones(council)) and set(seen) <= set(range(len(council))) - set(doors)

    def test_is_house(self):
        for house in test_houses.HOUSES[::23] + test_houses.SMALL:
            self.check(houses.is_house, (), [house], lambda thing, text: self.is_house(thing))

    def test_is_house_edges(self):
        council = (0, 6, (0, 3), (1, 2))
        for house in ((council, (), ()), (council, (0, 1), (2, 3)), (council, (), (0, 1, 2, 3)), (council, (1,), (0,)),
                      ((5,) * 40, tuple(range(20)), tuple(range(20, 40)))):
            self.assertIs(houses.is_house(house), True)
        # A DOOR that is an asker, that is SEEN, too; a COUNCIL that is not sound; not ascending; twice; none there.
        for house in ((council, (2,), ()), (council, (0,), (0,)), ((5, (2,), (1,)), (0,), ()), (council, (1, 0), ()),
                      (council, (0, 0), ()), (council, (), (3, 2)), (council, (4,), ()), (council, (-1,), ()),
                      (council, (), (4,)), (council, (), (-1,)), (council, (True,), ()), (council, (), (True,)),
                      (council, [0], ()), ([0, 6, (0, 3), (1, 2)], (), ()), (council, ()), (council, (), (), ()),
                      ((), (), ()), (council, None, ()), (council, 0, 2)):
            self.assertIs(houses.is_house(house), False, house)

    def test_is_losing(self):
        for house in (((((1,), 0, 7), (1,), (0,))), (((1, 2), 0, 7), (1,), (0,)), ((0, 1, (0, 1), (0,)), (0, 1), (2, 3))):
            right = [houses.losing_outside(house)] if houses.losing_outside(house) else []
            self.check(houses.is_losing, (house,), right, lambda thing, text: self.loses(house, thing))

    def fits(self, house, x):
        return self.is_house(x) and len(x[1]) == len(house[2]) and len(x[2]) == len(house[1])

    def loses(self, house, x):
        return self.fits(house, x) and not test_houses.is_sound(test_houses.together(house, x)[1])

    def is_border_wish(self, house, outside, x):
        if type(x) is not tuple:
            return False
        out = [k for k in range(len(outside[0])) if k not in outside[1]]
        own = test_houses.own_ones(outside)
        members = [("seen", at) for at in range(len(house[2]))] + [("out", k) for k in out]
        firm = [("own", at) for at in range(len(test_houses.own_ones(house)))] + [("out", k) for k in own]
        for part in x:
            if type(part) is not tuple or len(part) != 3 or not reckoning.is_number(part[2]):
                return False
            for told, options in ((part[0], members), (part[1], firm)):
                if repr(told) not in [repr(option) for option in options]:
                    return False
        return True

    def parts(self, one, other, x):
        if type(x) is not tuple or len(x) != 2 or not self.fits(one, x[0]) or not self.is_border_wish(one, *x):
            return False
        if not all(test_houses.is_sound(test_houses.together(house, x[0])[1]) for house in (one, other)):
            return False
        return test_houses.holds(other, *x) and not test_houses.holds(one, *x)

    def test_is_parting_outside(self):
        house, bare = (((1, 2), 0, 7), (1,), (0,)), (((1,), 0, 7), (1,), (0,))
        told = [(house, bare, ((0, 0), (0,), (1,)), ((("seen", 0), ("own", 0), -1),)), (house, bare) + houses.parting_outside(house, bare),
                (house, bare, ((0, (0, 2), 4), (0,), (1,)), ((("seen", 0), ("own", 0), -1), (("out", 2), ("out", 2), 0))),
                (bare, house, ((0, 0), (0,), (1,)), ((("seen", 0), ("own", 0), -1),))]
        for one, other, outside, wish in told:
            right = [(outside, wish)] if self.parts(one, other, (outside, wish)) else []
            self.assertEqual(right == [], one == bare)
            self.check(houses.is_parting_outside, (one, other), right, lambda thing, text: self.parts(one, other, thing))
        # What is held is not looked at: 1 for True, and so on.
        for wish in (((("seen", False), ("own", 0), -1),), ((["seen", 0], ("own", 0), -1),), ((("seen", 0, 0), ("own", 0), -1),),
                     ((("own", 0), ("own", 0), -1),), ((("seen", 0), ("seen", 0), -1),), ((("out", 0), ("own", 0), -1),),
                     ((("seen", 0), ("out", 0), -1),), ((("seen", 0), ("own", 0), True),), ((("seen", 1), ("own", 0), -1),),
                     ((("seen", -1), ("own", 0), -1),), ((("seen", 0), ("own", 1), -1),), (("seen", 0), ("own", 0), -1)):
            self.assertIs(houses.is_parting_outside(house, bare, (((0, 0), (0,), (1,)), wish)), False, wish)


class Buyers(trying.Case):

    def told(self):
        for seed, council in SOME + [(3, test_buyers.TOWN)]:
            held = sorted(council[k] for k in reckoning.firm_ones(council))
            for some in (tuple(range(len(council))), reckoning.askers(council), reckoning.askers(council)[:2]):
                for number in {held[0], held[0] + 1, held[-1] + 1}:
                    yield council, some, number

    def test_is_low_road(self):
        for council, some, number in self.told():
            roads = test_buyers.low_roads(council, some, number)
            for bought in ((), reckoning.askers(council)[1:2]):
                right = [road for road in roads if not set(road) & set(bought)]
                texts = {repr(road) for road in right}
                self.check(buyers.is_low_road, (council, some, number, bought), right[:5], lambda thing, text: text in texts)

    def test_a_low_road_ends_at_one_that_holds_less(self):
        council = (5, 4, (0, 1))
        self.assertIs(buyers.is_low_road(council, (2,), 5, (), (2, 1)), True)
        self.assertIs(buyers.is_low_road(council, (2,), 5, (), (2, 0)), False)
        self.assertIs(buyers.is_low_road(council, (2,), 4, (), (2, 1)), False)
        self.assertIs(buyers.is_low_road(council, (1,), 5, (), (1,)), True)
        self.assertIs(buyers.is_low_road(council, (2,), 5, (), (1,)), False)
        self.assertIs(buyers.is_low_road(council, (2,), 5, (2,), (2, 1)), False)

    def test_is_roads_apart(self):
        for council, some, number in self.told():
            roads = {repr(road): road for road in test_buyers.low_roads(council, some, number)}
            made = buyers.roads_apart(council, some, number)
            self.check(buyers.is_roads_apart, (council, some, number), [] if made is None else [made],
                       lambda thing, text: made is not None and self.are_apart(thing, roads, len(made)))

    def are_apart(self, x, roads, many):
        if type(x) is not tuple or len(x) != many or any(repr(road) not in roads for road in x):
            return False
        return list(x) == sorted(set(x)) and test_buyers.are_apart(x)

    def test_is_bar(self):
        for _, council in SOME + [(3, test_buyers.TOWN)]:
            made = buyers.bar(council)
            many = len(made[0]) + len(made[1])
            self.check(buyers.is_bar, (council,), [made], lambda thing, text: self.is_bar(council, thing, many))

    def is_bar(self, council, x, many):
        if type(x) is not tuple or len(x) != 2 or not all(map(is_set, x)) or len(x[0]) + len(x[1]) != many:
            return False
        if not set(x[0]) <= set(reckoning.firm_ones(council)) or not set(x[1]) <= set(reckoning.askers(council)):
            return False
        return all(a in x[1] or b in x[0] for a, b in reckoning.arcs(council) if reckoning.is_firm(council, b))


class Rounds(trying.Case):

    def test_is_begun(self):
        for seed, council in SOME + [(3, (5, (2,), (1,)))]:
            begun = test_rounds.begun_for(council, seed)
            self.check(rounds.is_begun, (council,), [begun], lambda thing, text: type(thing) is tuple
                       and len(thing) == len(council) and all(map(reckoning.is_number, thing))
                       and all(thing[k] == council[k] for k in reckoning.firm_ones(council)))

    def test_is_round_weights(self):
        for seed, council in SOME:
            weights = samples.weights_for(council, seed)
            voice = [Fraction(n) for n in test_rounds.begun_for(council, seed)]
            later = test_rounds.talk_round(council, weights, voice)
            told = tuple(map(pair, voice)), tuple(map(pair, later))
            self.check(rounds.is_round_weights, (council,) + told, [weights],
                       lambda thing, text: reckoning.is_weights(council, thing)
                       and test_rounds.talk_round(council, thing, voice) == later)

    def test_is_talk_against(self):
        for seed, council in SOME:
            begun, total = test_rounds.begun_for(council, seed), samples.total_for(council, seed)
            for many in (0, 1, 2):
                talk = test_rounds.talk_for(council, seed, many)
                value = sum(n * part for n, part in zip(total, test_rounds.after(council, begun, talk)))
                number = value.numerator // value.denominator + 1
                for told in (number, number - 1):
                    claim = ("talk", begun, many, total, told)
                    self.check(rounds.is_talk_against, (council, begun, many, total, told), [talk] if told == number else [],
                               lambda thing, text: claims.is_paper(council, claim, thing))


if __name__ == "__main__":
    unittest.main()
