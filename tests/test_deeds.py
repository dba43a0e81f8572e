import unittest

from helper import FAR_FORM, beside_ends, chance, costs_in, far_form, far_number, form_from, long_form, small_forms
from offerhouse.deeds import freed, moved, plus, raised, times, within, without
from offerhouse.forms import cost_at, how_many, is_form

FORM = ((-4, -1, 9, -3), (0, 0, 7, 0), (2, 4, 1, 5), (5, 6, 0, 0), (9, 9, -8, 0))
FORMS = small_forms(4, (None, 0, 1, 3)) + [FORM]
N = 10 ** 40


def some_far_forms():
    source = chance(21)
    return [FAR_FORM, FORM, ()] + [far_form(source, source.randrange(1, 8)) for _ in range(60)]


class Told(unittest.TestCase):
    def form(self, told, asked):
        self.assertIs(type(told), tuple)
        self.assertTrue(is_form(told), told)
        self.assertEqual(told, asked)

    def costs(self, told, costs):
        self.form(told, form_from(costs))


class Plus(Told):
    def both(self, one, other, asked):
        self.form(plus(one, other), asked)
        self.form(plus(other, one), asked)

    def test_nothing_offered(self):
        for form in ((), FORM, FAR_FORM):
            self.both(form, (), ())

    def test_overlap_in_part(self):
        self.both(((0, 5, 1, 2),), ((3, 9, 10, -1),), ((3, 5, 17, 1),))
        self.both(((0, 5, 1, 2),), ((5, 9, 10, -1),), ((5, 5, 21, 0),))
        self.both(((-9, -2, 0, 1),), ((-3, 9, 5, 5),), ((-3, -2, 11, 6),))

    def test_one_within_another(self):
        self.both(((0, 9, 1, 2),), ((3, 5, 10, -1),), ((3, 5, 17, 1),))
        self.both(((0, 9, 1, 2),), ((3, 3, 10, 0), (5, 6, 4, 0)), ((3, 3, 17, 0), (5, 6, 15, 2)))

    def test_apart_and_neighbours(self):
        self.both(((0, 4, 1, 2),), ((7, 9, 1, 0),), ())
        self.both(((0, 4, 1, 2),), ((5, 9, 1, 0),), ())
        self.both(((0, 1, 0, 0), (4, 5, 0, 0)), ((2, 3, 0, 0), (6, 7, 0, 0)), ())

    def test_the_same_twice(self):
        for form in FORMS + [FAR_FORM]:
            self.form(plus(form, form), times(form, 2))

    def test_costs_that_come_to_lie_on_one_line(self):
        self.both(((0, 4, 0, 1), (5, 9, 9, 2)), ((0, 4, 0, 1), (5, 9, 1, 0)), ((0, 9, 0, 2),))
        self.both(((0, 4, 5, 2), (5, 9, 0, 0)), ((4, 9, 0, 0),), ((4, 5, 13, -13), (6, 9, 0, 0)))

    def test_one_by_one(self):
        for one in small_forms(3, (None, 0, 1, 3)):
            for other in small_forms(3, (None, 0, 2, 1)):
                for count in (-2, -1, 0, 1):
                    mine, yours = costs_in(one), costs_in(moved(other, count))
                    asked = {x: mine[x] + yours[x] for x in mine if x in yours}
                    self.costs(plus(one, moved(other, count)), asked)

    def test_far(self):
        forms = some_far_forms()
        for one, other in zip(forms, forms[1:] + forms[:1]):
            self.check_far(one, other)
        source = chance(22)
        for form in forms:
            # Near one another, so that many stretches meet.
            self.check_far(form, moved(form, source.choice((-1, 1, 2, -10 ** 30))))

    def check_far(self, one, other):
        told = plus(one, other)
        self.assertTrue(is_form(told))
        self.assertEqual(plus(other, one), told)
        for x in beside_ends(one, other, told):
            mine, yours = cost_at(one, x), cost_at(other, x)
            asked = None if mine is None or yours is None else mine + yours
            self.assertEqual(cost_at(told, x), asked, (one, other, x))

    def test_long(self):
        form = long_form(1000)
        self.form(plus(form, form), times(form, 2))
        self.form(plus(form, ((0, 2998, 0, 0),)), form)
        self.form(plus(form, moved(form, 1)), tuple((3 * k + 1, 3 * k + 1, 2 * k * k + k, 0) for k in range(1000)))


class Times(Told):
    def test_known(self):
        self.form(times((), 5), ())
        self.form(times(FORM, 1), FORM)
        asked = ((-4, -1, -18, 6), (0, 0, -14, 0), (2, 4, -2, -10), (5, 6, 0, 0), (9, 9, 16, 0))
        self.form(times(FORM, -2), asked)

    def test_by_nought(self):
        self.form(times(FORM, 0), ((-4, 0, 0, 0), (2, 6, 0, 0), (9, 9, 0, 0)))
        self.form(times((), 0), ())
        self.form(times(((0, 1, 5, 3), (2, 3, 5, 3), (4, 4, 1, 0)), 0), ((0, 4, 0, 0),))

    def test_one_by_one(self):
        for form in FORMS:
            for many in (-3, -1, 0, 1, 2):
                self.costs(times(form, many), {x: cost * many for x, cost in costs_in(form).items()})

    def test_far(self):
        for form in some_far_forms():
            for many in (-N, -1, 0, 1, 10 ** 399):
                told = times(form, many)
                self.assertTrue(is_form(told))
                for x in beside_ends(form):
                    cost = cost_at(form, x)
                    self.assertEqual(cost_at(told, x), None if cost is None else cost * many)

    def test_long(self):
        form = long_form(1000)
        self.form(times(times(form, -1), -1), form)
        self.assertEqual(len(times(form, 7)), 1000)
        neighbours = tuple((2 * k, 2 * k + 1, 5 * k, 0) for k in range(1000))
        self.form(times(neighbours, 0), ((0, 1999, 0, 0),))


class RaisedAndMoved(Told):
    def test_known(self):
        self.form(raised((), 5), ())
        self.form(moved((), 5), ())
        self.form(raised(((0, 4, 5, 2), (5, 5, 0, 0)), -3), ((0, 4, 2, 2), (5, 5, -3, 0)))
        self.form(moved(((0, 4, 5, 2), (5, 5, 0, 0)), -3), ((-3, 1, 5, 2), (2, 2, 0, 0)))

    def test_one_by_one(self):
        for form in FORMS:
            for number in (-7, -1, 0, 1, 5):
                self.costs(raised(form, number), {x: cost + number for x, cost in costs_in(form).items()})
                self.costs(moved(form, number), {x + number: cost for x, cost in costs_in(form).items()})

    def test_there_and_back(self):
        for form in some_far_forms() + [long_form(1000)]:
            for number in (1, -1, 0, 7, N, -N, 10 ** 399):
                for deed in (raised, moved):
                    there = deed(form, number)
                    self.assertTrue(is_form(there))
                    self.assertEqual(there == form, number == 0 or not form)
                    self.form(deed(there, -number), form)

    def test_far(self):
        for form in some_far_forms():
            for number in (N, -N, 3):
                for x in beside_ends(form):
                    cost = cost_at(form, x)
                    self.assertEqual(cost_at(raised(form, number), x), None if cost is None else cost + number)
                    self.assertEqual(cost_at(moved(form, number), x + number), cost)


class Freed(Told):
    def asked(self, form, count):
        costs = costs_in(form)
        behind = max(0, max(costs, default=0)) + count + 1
        return {x: costs[max(0, x - count)] for x in range(behind) if max(0, x - count) in costs}

    def test_count_nought(self):
        self.form(freed((), 0), ())
        self.form(freed(((0, 9, 5, 2),), 0), ((0, 9, 5, 2),))
        self.form(freed(((-3, 9, 5, 2),), 0), ((0, 9, 11, 2),))
        self.form(freed(((2, 9, 5, 2),), 0), ((2, 9, 5, 2),))

    def test_where_nought_is_offered(self):
        self.form(freed(((0, 9, 5, 2),), 3), ((0, 3, 5, 0), (4, 12, 7, 2)))
        self.form(freed(((0, 9, 5, 2),), 1), ((0, 1, 5, 0), (2, 10, 7, 2)))
        self.form(freed(((0, 0, 5, 0),), 4), ((0, 4, 5, 0),))
        self.form(freed(((0, 0, 5, 0), (2, 2, 5, 0)), 4), ((0, 4, 5, 0), (6, 6, 5, 0)))
        self.form(freed(((0, 3, 5, 0),), 4), ((0, 7, 5, 0),))

    def test_where_nought_is_not_offered(self):
        self.form(freed((), 4), ())
        self.form(freed(((1, 9, 5, 2),), 4), ((5, 13, 5, 2),))
        self.form(freed(((3, 3, 5, 0),), 4), ((7, 7, 5, 0),))
        self.form(freed(((-3, -1, 5, 2), (1, 1, 8, 0)), 4), ((5, 5, 8, 0),))

    def test_amounts_below_nought(self):
        self.form(freed(((-5, -1, 5, 2),), 9), ())
        self.form(freed(((-5, 0, 5, 2),), 9), ((0, 9, 15, 0),))
        self.form(freed(((-5, 5, 5, 2),), 9), ((0, 9, 15, 0), (10, 14, 17, 2)))
        self.form(freed(((-5, -4, 5, 2), (0, 1, 3, 4)), 9), ((0, 9, 3, 0), (10, 10, 7, 0)))

    def test_one_by_one(self):
        for form in FORMS:
            for start in (-4, -3, -2, 0, 1):
                here = moved(form, start)
                # Counts within the form, at its end and behind it.
                for count in range(9):
                    self.costs(freed(here, count), self.asked(here, count))

    def test_far(self):
        for form in some_far_forms():
            for count in (0, 1, 10 ** 30, 10 ** 49, 10 ** 399):
                told = freed(form, count)
                self.assertTrue(is_form(told))
                for x in beside_ends(form, told, moved(form, count)):
                    asked = None if x < 0 else cost_at(form, max(0, x - count))
                    self.assertEqual(cost_at(told, x), asked, (form, count, x))

    def test_long(self):
        form = long_form(1000)
        told = freed(form, 5)
        self.form(told, ((0, 6, 0, 0),) + moved(form[1:], 5))


class WithinAndWithout(Told):
    def test_a_low_above_the_high(self):
        for form in ((), FORM, FAR_FORM):
            for low, high in ((1, 0), (3, 2), (5, 3), (9, -9), (10 ** 399, -10 ** 399)):
                self.form(within(form, low, high), ())
                self.form(without(form, low, high), form)

    def test_nothing_offered(self):
        self.form(within((), -5, 5), ())
        self.form(without((), -5, 5), ())

    def test_all_and_none(self):
        for form in (FORM, FAR_FORM):
            low, high = form[0][0], form[-1][1]
            for ahead, behind in ((0, 0), (1, 0), (0, 1), (10 ** 49, 10 ** 49)):
                self.form(within(form, low - ahead, high + behind), form)
                self.form(without(form, low - ahead, high + behind), ())
            for first, last in ((low - 9, low - 1), (high + 1, high + 9)):
                self.form(within(form, first, last), ())
                self.form(without(form, first, last), form)

    def test_at_and_beside_ends(self):
        form = ((0, 4, 5, 2), (7, 9, 0, 0))
        self.form(within(form, 1, 7), ((1, 4, 7, 2), (7, 7, 0, 0)))
        self.form(within(form, -1, 6), ((0, 4, 5, 2),))
        self.form(within(form, 5, 10), ((7, 9, 0, 0),))
        self.form(within(form, 3, 8), ((3, 4, 11, 2), (7, 8, 0, 0)))
        self.form(without(form, 1, 7), ((0, 0, 5, 0), (8, 9, 0, 0)))
        self.form(without(form, 0, 7), ((8, 9, 0, 0),))
        self.form(without(form, 2, 2), ((0, 1, 5, 2), (3, 4, 11, 2), (7, 9, 0, 0)))
        self.form(without(form, 5, 6), form)
        self.form(without(form, 4, 8), ((0, 3, 5, 2), (9, 9, 0, 0)))

    def test_one_amount_alone_left(self):
        form = ((0, 4, 5, 2), (5, 9, 0, 0))
        self.form(within(form, 2, 2), ((2, 2, 9, 0),))
        self.form(within(form, 4, 9), ((4, 5, 13, -13), (6, 9, 0, 0)))
        self.form(within(form, 4, 5), ((4, 5, 13, -13),))
        self.form(within(form, 3, 5), ((3, 4, 11, 2), (5, 5, 0, 0)))
        self.form(without(form, 1, 8), ((0, 0, 5, 0), (9, 9, 0, 0)))
        self.form(without(form, 0, 3), ((4, 5, 13, -13), (6, 9, 0, 0)))
        self.form(without(form, 6, 9), ((0, 4, 5, 2), (5, 5, 0, 0)))

    def test_one_by_one(self):
        for form in FORMS:
            costs = costs_in(form)
            for low in range(-6, 11):
                for high in range(low - 2, 11):
                    inside = {x: cost for x, cost in costs.items() if low <= x <= high}
                    other = {x: cost for x, cost in costs.items() if x not in inside}
                    self.costs(within(form, low, high), inside)
                    self.costs(without(form, low, high), other)

    def test_far(self):
        source = chance(23)
        for form in some_far_forms():
            for _ in range(20):
                amounts = beside_ends(form) + [far_number(source, 50)]
                self.check_far(form, source.choice(amounts), source.choice(amounts))

    def check_far(self, form, low, high):
        inside, other = within(form, low, high), without(form, low, high)
        self.assertTrue(is_form(inside) and is_form(other))
        self.assertEqual(how_many(inside) + how_many(other), how_many(form))
        for x in beside_ends(form, inside, other):
            cost = cost_at(form, x)
            here = low <= x <= high
            self.assertEqual(cost_at(inside, x), cost if here else None, (form, low, high, x))
            self.assertEqual(cost_at(other, x), None if here else cost, (form, low, high, x))

    def test_long(self):
        form = long_form(1000)
        self.form(within(form, 300, 1498), form[100:500])
        self.form(without(form, 300, 1498), form[:100] + form[500:])
        self.form(within(form, 301, 1497), ((301, 301, 10100, 0),) + form[101:499] + ((1497, 1497, 249001, 0),))


class NothingChanged(unittest.TestCase):
    def test_the_same_is_told_again(self):
        kept = tuple(list(FORM))
        for deed in (
            lambda: plus(FORM, FORM), lambda: times(FORM, 3), lambda: raised(FORM, 3), lambda: moved(FORM, 3),
            lambda: freed(FORM, 3), lambda: within(FORM, -2, 5), lambda: without(FORM, -2, 5),
        ):
            self.assertEqual(deed(), deed())
        self.assertEqual(FORM, kept)
