import itertools
import unittest

from helper import (
    FAR_FORM, beside_ends, chance, costs_in, far_form, far_split_cost, form_from, long_form, sellers_of, small_forms,
    split_costs,
)
from offerhouse.errors import NotOffered, TooMany
from offerhouse.forms import cost_at, is_form
from offerhouse.house import cost_of, joined, shares_at, spared, standing
from offerhouse.split import split

N = 10 ** 39 + 7
FORM = ((-4, -1, 9, -3), (0, 0, 7, 0), (2, 4, 1, 5), (5, 6, 0, 0), (9, 9, -8, 0))
NOTHING = ((0, 0, 0, 0),)
SMALL = small_forms(3, (None, 0, 1, 3))


def costs_together(forms):
    return split_costs(*[costs_in(form) for form in forms])


class Told(unittest.TestCase):
    def form(self, told, asked):
        self.assertIs(type(told), tuple)
        self.assertTrue(is_form(told), told)
        self.assertEqual(told, asked)

    def refused(self, refusal, asked, *handed):
        with self.assertRaises(refusal):
            asked(*handed)


class Joined(Told):
    def test_no_seller(self):
        self.form(joined([]), NOTHING)

    def test_one_seller(self):
        for form in [(), FORM, FAR_FORM, NOTHING, long_form(100)] + SMALL:
            self.form(joined([form]), form)

    def test_two(self):
        for one in SMALL[::3]:
            for other in SMALL + [FORM]:
                self.form(joined([one, other]), split(one, other))

    def test_up_to_six(self):
        source = chance(61)
        seen = set()
        for _ in range(400):
            forms = sellers_of(source, 6)
            seen.add(len(forms))
            self.form(joined(forms), form_from(costs_together(forms)))
        self.assertEqual(seen, {0, 1, 2, 3, 4, 5, 6})

    def test_sellers_alike(self):
        for form in (FORM[:2], FORM[1:3], ((0, 3, 5, -2),), ((1, 1, 4, 0), (3, 3, 5, 0))):
            for many in range(2, 7):
                self.form(joined([form] * many), form_from(costs_together([form] * many)))

    def test_one_that_offers_nothing(self):
        for place in range(6):
            forms = [FORM, FORM[:2], NOTHING, FORM[3:], ((0, N, N, -N),)]
            self.form(joined(forms[:place] + [()] + forms[place:]), ())
        self.form(joined([()]), ())
        self.form(joined([()] * 6), ())

    def test_the_order_of_the_sellers(self):
        source = chance(62)
        for _ in range(12):
            forms = sellers_of(source, 6)[:4]
            for order in itertools.permutations(forms):
                self.assertEqual(joined(list(order)), joined(forms))

    def test_some_joined_first(self):
        source = chance(63)
        tried = 0
        while tried < 150:
            forms = sellers_of(source, 6)
            for cut in range(len(forms) + 1):
                parts = [joined(forms[:cut]), joined(forms[cut:])]
                if len(parts[0]) * len(parts[1]) <= 100:
                    self.assertEqual(joined(parts), joined(forms))
                    self.assertEqual(split(*parts), joined(forms))
                    tried += 1

    def test_far(self):
        source = chance(64)
        for many in (2, 3, 3, 4, 5, 6, 6):
            forms = [far_form(source, 2) for _ in range(many)]
            told, ahead = joined(forms), joined(forms[:-1])
            self.assertTrue(is_form(told))
            self.assertEqual(told, joined(forms[::-1]))
            for x in beside_ends(told):
                self.assertEqual(cost_at(told, x), far_split_cost(ahead, forms[-1], x), (forms, x))

    def test_far_steps(self):
        forms = [((0, N, 0, 3),), ((0, N, 0, -5),), ((-N, N, 7, 3),), ((0, 0, 1, 0),)]
        self.form(joined(forms), ((-N, 0, 8, -5), (1, 3 * N, 8 - 5 * N + 3, 3)))

    def test_too_many(self):
        for counts in ([101], [1, 101], [11, 10], [5, 5, 5], [2] * 5 + [4], [51, 1, 2], [1000] * 6, [1] * 5 + [101]):
            self.refused(TooMany, joined, [long_form(many) for many in counts])
            self.refused(TooMany, joined, [long_form(many) for many in counts[::-1]])

    def test_not_too_many(self):
        for counts in ([100], [1, 100], [10, 10], [5, 5, 4], [2, 2, 5, 5], [2] * 6, [3, 3, 11, 1], [1] * 5 + [100]):
            forms = [long_form(many, 7 * place) for place, many in enumerate(counts)]
            self.form(joined(forms), form_from(costs_together(forms)))
        # A seller that offers nothing makes the product 0, wherever it stands.
        for place in range(6):
            forms = [long_form(1000)] * 5
            self.form(joined(forms[:place] + [()] + forms[place:]), ())


class CostOf(Told):
    def test_no_seller(self):
        self.assertEqual(cost_of([], []), 0)

    def test_known(self):
        self.assertEqual(cost_of([FORM], [3]), 6)
        self.assertEqual(cost_of([FORM, FORM, FORM], [-4, 9, 6]), 9 - 8 + 0)
        self.assertEqual(cost_of([FAR_FORM, FORM], [10 ** 401, 0]), 12)
        self.assertEqual(cost_of([((-N, N, N, -N),), ((0, N, 5, N),)], [N, N]), N - 2 * N * N + 5 + N * N)
        self.assertEqual(cost_of([long_form(1000)] * 6, [2997] * 6), 6 * 999 ** 2)

    def test_one_by_one(self):
        costs = costs_in(FORM)
        other = costs_in(FORM[1:4])
        for x in range(-5, 11):
            for y in range(-1, 8):
                if x in costs and y in other:
                    self.assertEqual(cost_of([FORM, FORM[1:4]], [x, y]), costs[x] + other[y])
                else:
                    self.refused(NotOffered, cost_of, [FORM, FORM[1:4]], [x, y])

    def test_not_offered(self):
        self.refused(NotOffered, cost_of, [()], [0])
        self.refused(NotOffered, cost_of, [FORM, ()], [0, 0])
        self.refused(NotOffered, cost_of, [FORM, FORM], [0, 1])
        self.refused(NotOffered, cost_of, [FORM, FORM], [1, 0])
        self.refused(NotOffered, cost_of, [long_form(1000)] * 6, [0, 0, 0, 0, 0, 2])


class Shares(Told):
    def check(self, forms, x, cost):
        told = shares_at(forms, x)
        self.assertIs(type(told), list)
        self.assertEqual(len(told), len(forms))
        self.assertTrue(all(type(share) is int for share in told))
        self.assertEqual(sum(told), x)
        costs = [cost_at(form, share) for form, share in zip(forms, told)]
        self.assertNotIn(None, costs)
        self.assertEqual(sum(costs), cost, (forms, x))
        self.assertEqual(cost_of(forms, told), cost)

    def test_no_seller(self):
        self.assertEqual(shares_at([], 0), [])
        self.refused(NotOffered, shares_at, [], 1)
        self.refused(NotOffered, shares_at, [], -1)

    def test_one_by_one(self):
        source = chance(65)
        for _ in range(250):
            forms = sellers_of(source, 6)
            costs = costs_together(forms)
            for x in range(min(costs, default=0) - 1, max(costs, default=0) + 2):
                if x in costs:
                    self.check(forms, x, costs[x])
                else:
                    self.refused(NotOffered, shares_at, forms, x)

    def test_far(self):
        source = chance(66)
        for many in (1, 2, 3, 4, 6):
            forms = [far_form(source, 2) for _ in range(many)]
            told = joined(forms)
            for x in beside_ends(told):
                if cost_at(told, x) is None:
                    self.refused(NotOffered, shares_at, forms, x)
                else:
                    self.check(forms, x, cost_at(told, x))

    def test_not_offered(self):
        self.refused(NotOffered, shares_at, [()], 0)
        self.refused(NotOffered, shares_at, [FORM, (), FORM], 0)
        self.refused(NotOffered, shares_at, [long_form(1000), (), long_form(1000)], 0)
        self.refused(NotOffered, shares_at, [FORM], 1)

    def test_too_many_ahead_of_not_offered(self):
        for x in (0, -1, 10 ** 40):
            self.refused(TooMany, shares_at, [long_form(101)], x)
            self.refused(TooMany, shares_at, [long_form(11), long_form(5), long_form(2)], x)
        self.refused(NotOffered, shares_at, [long_form(10), long_form(5), long_form(2)], -1)
        self.check([long_form(10), long_form(5), long_form(2)], 0, 0)

    def test_the_list_is_the_askers_own(self):
        forms = [FORM, FORM[2:], NOTHING]
        told = shares_at(forms, 9)
        kept = list(told)
        told.append(5)
        told[0] = 10 ** 9
        self.assertEqual(shares_at(forms, 9), kept)
        self.assertEqual(forms, [FORM, FORM[2:], NOTHING])


class Spared(Told):
    def asked(self, forms, k):
        together = costs_together(forms)
        others = costs_together(forms[:k] + forms[k + 1:])
        return form_from({x: others[x] - together[x] for x in others if x in together})

    def test_known(self):
        dear, cheap = ((0, 5, 0, 3),), ((0, 2, 0, 1),)
        self.form(spared([dear, cheap], 1), ((0, 2, 0, 2), (3, 5, 4, 0)))
        self.form(spared([dear, cheap], 0), ((0, 2, 0, 0),))
        self.form(spared([cheap, dear], 0), ((0, 2, 0, 2), (3, 5, 4, 0)))

    def test_each_seller(self):
        source = chance(67)
        for _ in range(250):
            forms = sellers_of(source, 6)
            for k in range(len(forms)):
                self.form(spared(forms, k), self.asked(forms, k))

    def test_amounts_that_one_of_the_two_alone_offers(self):
        # With the seller 1 the amounts 0, 3, 7 and 10 are offered, without it 0 and 7.
        forms = [((0, 0, 2, 0), (7, 7, 8, 0)), ((0, 0, -5, 0), (3, 3, 1, 0))]
        self.form(spared(forms, 1), ((0, 0, 5, 0), (7, 7, 5, 0)))
        self.form(spared([((0, 0, 2, 0),), ((3, 3, 1, 0),)], 1), ())
        self.form(spared([((0, 0, 2, 0),), ((3, 3, 1, 0),)], 0), ((3, 3, -2, 0),))

    def test_one_seller_alone(self):
        self.form(spared([FORM], 0), ((0, 0, -7, 0),))
        self.form(spared([((-5, 5, 3, 2),)], 0), ((0, 0, -13, 0),))
        self.form(spared([((1, 5, 3, 2),)], 0), ())
        self.form(spared([()], 0), ())

    def test_a_seller_that_offers_nothing(self):
        for k in range(3):
            self.form(spared([FORM, (), FORM], k), ())
            # Joined without it, the other two would be too many: that is no refusal.
            self.form(spared([long_form(20), (), long_form(20)], k), ())

    def test_too_many(self):
        for k in (0, 1):
            self.refused(TooMany, spared, [long_form(101), long_form(1)], k)
            self.refused(TooMany, spared, [long_form(11), long_form(10)], k)
        self.refused(TooMany, spared, [long_form(101)], 0)
        for k in (0, 1):
            forms = [long_form(10), long_form(10, 1)]
            self.form(spared(forms, k), self.asked(forms, k))

    def test_far(self):
        source = chance(68)
        for many in (1, 2, 3, 4):
            forms = [far_form(source, 2) for _ in range(many - 1)] + [((-N, N, 5, -3), (N + 2, 2 * N, 0, 7))]
            for k in range(many):
                told, together = spared(forms, k), joined(forms)
                others = joined(forms[:k] + forms[k + 1:])
                self.assertTrue(is_form(told))
                for x in beside_ends(told, together, others):
                    costs = (cost_at(others, x), cost_at(together, x))
                    self.assertEqual(cost_at(told, x), None if None in costs else costs[0] - costs[1])


class Standing(Told):
    def asked(self, forms, lows):
        cut = [{x: cost for x, cost in costs_in(form).items() if x >= low} for form, low in zip(forms, lows)]
        return form_from(split_costs(*cut))

    def test_no_seller(self):
        self.form(standing([], []), NOTHING)

    def test_one_seller(self):
        for low in range(-6, 12):
            self.form(standing([FORM], [low]), self.asked([FORM], [low]))
        self.form(standing([FORM], [-10 ** 400]), FORM)
        self.form(standing([FORM], [9]), ((9, 9, -8, 0),))
        self.form(standing([FORM], [10]), ())
        self.form(standing([()], [0]), ())

    def test_below_within_and_behind(self):
        source = chance(69)
        for _ in range(250):
            forms = sellers_of(source, 6)
            lows = [source.randrange(-5, 7) for _ in forms]
            self.form(standing(forms, lows), self.asked(forms, lows))
            self.form(standing(forms, [-99] * len(forms)), joined(forms))

    def test_each_low_is_its_own_sellers(self):
        forms = [((0, 5, 0, 1),), ((0, 5, 0, 10),)]
        self.form(standing(forms, [2, 0]), ((2, 5, 2, 1), (6, 10, 15, 10)))
        self.form(standing(forms, [0, 2]), ((2, 7, 20, 1), (8, 10, 35, 10)))
        self.form(standing(forms, [6, 0]), ())
        self.form(standing(forms, [0, 6]), ())

    def test_far(self):
        forms = [((-N, N, N, -3), (N + 5, 2 * N, 0, 2)), ((0, 9 * N, 0, 1),)]
        self.form(standing(forms, [N + 1, 9 * N]), ((10 * N + 5, 11 * N, 9 * N, 2),))
        self.form(standing(forms, [N, 9 * N]), ((10 * N, 10 * N, N - 6 * N + 9 * N, 0), (10 * N + 5, 11 * N, 9 * N, 2)))

    def test_too_many_by_the_forms_that_are_cut(self):
        self.refused(TooMany, standing, [long_form(11), long_form(10)], [0, 0])
        self.refused(TooMany, standing, [long_form(11), long_form(10)], [1, 1])
        self.refused(TooMany, standing, [long_form(1000), long_form(1)], [2697, 0])
        # Behind the first stretch of the one, or the first 900 of the other, 100 stretches are left.
        forms = [long_form(11), long_form(10)]
        self.form(standing(forms, [2, 0]), self.asked(forms, [2, 0]))
        forms = [long_form(1000), long_form(1)]
        self.form(standing(forms, [2698 + 2, 0]), self.asked(forms, [2700, 0]))
        self.form(standing([long_form(1000), long_form(1000)], [3000, 0]), ())
        # What is left of the first one's two stretches are two neighbours, which are one stretch of a form.
        forms = [((0, 4, 0, 1), (5, 5, 9, 0)), long_form(100)]
        self.refused(TooMany, standing, forms, [3, 0])
        self.form(standing(forms, [4, 0]), self.asked(forms, [4, 0]))
        self.form(standing([long_form(1000), long_form(1000)], [2998, 2998]), ((5996, 5996, 2 * (999 ** 2 + 999), 0),))


class NothingChanged(Told):
    def test_what_is_handed_in_stays(self):
        forms, shares, lows = [FORM, FORM[2:], ((0, 3, 1, 2),)], [3, 9, 1], [1, 4, 0]
        kept = (list(forms), list(shares), list(lows))
        for asked in (
            lambda: joined(forms), lambda: cost_of(forms, shares), lambda: shares_at(forms, 9),
            lambda: spared(forms, 1), lambda: standing(forms, lows),
        ):
            told = asked()
            self.assertEqual((forms, shares, lows), kept)
            self.assertEqual(asked(), told)

    def test_what_is_done_behind_the_call_changes_nothing(self):
        forms = [FORM, FORM[2:]]
        told = [joined(forms), spared(forms, 0), standing(forms, [0, 0]), shares_at(forms, 9)]
        forms.pop()
        again = [FORM, FORM[2:]]
        self.assertEqual(told, [joined(again), spared(again, 0), standing(again, [0, 0]), shares_at(again, 9)])
