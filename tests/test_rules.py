import unittest

from helper import beside_ends, chance, costs_of, count_of, form_from, rule_of
from offerhouse import rules
from offerhouse.forms import cost_at, is_form, laid
from offerhouse.lines import up

N = 10 ** 39 + 7
FORMS = {
    "a": ((-4, -1, 9, -3), (0, 0, 7, 0), (2, 4, 1, 5), (5, 6, 0, 0), (9, 9, -8, 0)),
    "b": ((-2, 8, 20, -3),),
    "c": (),
    "d": ((3, 5, 1, 1),),
}
TWENTY = [(3 * k + 1, (7 * k) % 11 - 3) for k in range(20)]

# One of each class that stands by itself, in several kinds.
LEAVES = [
    ("Each", 3, 0, 5), ("Each", -2, 2, 6), ("Each", 0, 4, 4), ("Each", 5, 0, 0),
    ("Flat", 4, 0, 7), ("Flat", -4, 3, 3), ("Flat", 0, 1, 2),
    ("Bands", [(4, 5)]), ("Bands", [(0, 9)]), ("Bands", [(0, 9), (1, -1), (6, 3)]), ("Bands", [(3, 5), (7, 4)]),
    ("Steps", [(4, 5)]), ("Steps", [(0, 9)]), ("Steps", [(0, 9), (1, -1), (6, 3)]), ("Steps", [(3, 5), (7, 4)]),
    ("Blocks", 1, 5, 4), ("Blocks", 3, 5, 3), ("Blocks", 2, -1, 1), ("Blocks", 4, 0, 2),
    ("Named", "a"), ("Named", "b"), ("Named", "c"), ("Named", "d"),
]


def all_over(one, other):
    """Each class that stands over rules, over these two."""
    return [
        ("Sum", one, other), ("Cheaper", one, other), ("Dearer", one, other),
        ("Only", one, 2, 5), ("Only", one, 0, 0), ("After", one, 0), ("After", one, 3),
        ("Roomy", one), ("Fee", one, 6), ("Fee", one, -2), ("Fee", one, 0),
    ]


class Checks(unittest.TestCase):
    def check(self, spec, forms=FORMS):
        """Costs and the form as the classes' own words tell them, amount by amount."""
        rule = rule_of(spec)
        asked = costs_of(spec, forms)
        form = rule.form(forms)
        self.assertTrue(is_form(form), spec)
        self.assertEqual(form, form_from(asked), spec)
        first, last = min(asked, default=0) - 3, max(asked, default=0) + 4
        for x in list(range(first, last + 1)) + [-N, N]:
            self.assertEqual(rule.cost(x, forms), asked.get(x), (spec, x))

    def check_far(self, spec, forms, wanted):
        """The form is one, and tells at and beside its ends and these costs what cost tells."""
        rule = rule_of(spec)
        form = rule.form(forms)
        self.assertTrue(is_form(form), spec)
        for x in beside_ends(form):
            self.assertEqual(rule.cost(x, forms), cost_at(form, x), (spec, x))
        for x, cost in wanted.items():
            self.assertEqual(rule.cost(x, forms), cost, (spec, x))
            self.assertEqual(cost_at(form, x), cost, (spec, x))


class ByItself(Checks):
    def test_classes_stand_under_rule(self):
        names = "Each Flat Bands Steps Blocks Named Sum Cheaper Dearer Only After Roomy Fee".split()
        for name in names:
            self.assertTrue(issubclass(getattr(rules, name), rules.Rule), name)
        self.assertEqual(len({getattr(rules, name) for name in names}), 13)

    def test_each_of_them(self):
        for spec in LEAVES:
            self.check(spec)

    def test_each_and_flat(self):
        self.assertEqual(rules.Each(3, 2, 5).form({}), ((2, 5, 6, 3),))
        self.assertEqual(rules.Each(3, 2, 2).form({}), ((2, 2, 6, 0),))
        self.assertEqual(rules.Flat(3, 2, 5).form({}), ((2, 5, 3, 0),))
        self.assertEqual([rules.Each(3, 2, 5).cost(x, {}) for x in range(1, 7)], [None, 6, 9, 12, 15, None])
        self.assertEqual([rules.Flat(3, 2, 5).cost(x, {}) for x in range(1, 7)], [None, 3, 3, 3, 3, None])

    def test_bands_and_steps(self):
        rows = [(2, 10), (5, 7)]
        self.assertEqual([rules.Bands(rows).cost(x, {}) for x in range(-1, 7)], [None, 0, 10, 20, 21, 28, 35, None])
        self.assertEqual([rules.Steps(rows).cost(x, {}) for x in range(-1, 7)], [None, 0, 10, 20, 27, 34, 41, None])
        self.assertEqual(rules.Bands(rows).form({}), ((0, 2, 0, 10), (3, 5, 21, 7)))
        self.assertEqual(rules.Steps(rows).form({}), ((0, 2, 0, 10), (3, 5, 27, 7)))

    def test_a_first_top_of_nought(self):
        for kind in ("Bands", "Steps"):
            self.check((kind, [(0, 9), (4, 2)]))
            self.check_far((kind, [(0, 9), (4, 2)]), {}, {0: 0, 1: 2, 4: 8})
            self.check_far((kind, [(0, 9)]), {}, {-1: None, 0: 0, 1: None})

    def test_one_row_and_twenty(self):
        for kind in ("Bands", "Steps"):
            self.check((kind, [(5, -3)]))
            self.check((kind, TWENTY))
            self.assertEqual(len(rule_of((kind, TWENTY)).form({})), 20)
            self.check((kind, [(k, k % 3) for k in range(20)]))

    def test_blocks(self):
        self.assertEqual([rules.Blocks(3, 5, 2).cost(x, {}) for x in range(-1, 8)],
                         [None, 0, 5, 5, 5, 10, 10, 10, None])
        self.assertEqual(rules.Blocks(3, 5, 2).form({}), ((0, 1, 0, 5), (2, 3, 5, 0), (4, 6, 10, 0)))
        for size in (1, 2, 3, 4):
            for many in (1, 2, 39, 40):
                self.check(("Blocks", size, 7, many))

    def test_nought(self):
        self.assertEqual(rules.Steps([(4, 5)]).cost(0, {}), 0)
        self.assertEqual(rules.Blocks(3, 5, 2).cost(0, {}), 0)
        self.assertEqual(rules.After(rules.Flat(9, 0, 4), 2).cost(0, {}), 9)
        self.assertIsNone(rules.After(rules.Flat(9, 1, 4), 2).cost(0, {}))
        self.assertEqual(rules.Fee(rules.Flat(9, 0, 4), 2).cost(0, {}), 9)
        self.assertEqual(rules.Fee(rules.Flat(9, 0, 4), 2).cost(1, {}), 11)
        self.assertIsNone(rules.Fee(rules.Flat(9, 1, 4), 2).cost(0, {}))


class WithinOneAnother(Checks):
    def test_each_over_each_of_the_plain_ones(self):
        for one in LEAVES:
            for other in LEAVES[::4] + [one]:
                for spec in all_over(one, other):
                    self.check(spec)

    def test_either_place(self):
        for one in LEAVES:
            for kind in ("Sum", "Cheaper", "Dearer"):
                self.check((kind, ("Named", "a"), one))

    def test_each_over_each(self):
        plain = [("Steps", [(2, 5), (6, 1)]), ("Blocks", 3, 4, 3), ("Named", "a"), ("Each", 2, 1, 8)]
        for one, other in zip(plain, plain[1:] + plain[:1]):
            for inner in all_over(one, other):
                for spec in all_over(inner, other):
                    self.check(spec)

    def test_known(self):
        steps, flat = rules.Steps([(3, 5), (9, 2)]), rules.Flat(14, 2, 12)
        self.assertEqual(rules.Sum(steps, flat).form({}), ((2, 3, 24, 5), (4, 9, 31, 2)))
        self.assertEqual(rules.Cheaper(steps, flat).form({}), ((0, 2, 0, 5), (3, 12, 14, 0)))
        self.assertEqual(rules.Dearer(steps, flat).form({}), ((2, 3, 14, 1), (4, 9, 17, 2)))
        self.assertEqual(rules.Only(steps, 2, 4).form({}), ((2, 3, 10, 5), (4, 4, 17, 0)))
        self.assertEqual(rules.After(steps, 2).form({}), ((0, 2, 0, 0), (3, 5, 5, 5), (6, 11, 17, 2)))
        bands = rules.Bands([(3, 5), (9, 2)])
        self.assertEqual(rules.Roomy(bands).form({}), ((0, 1, 0, 5), (2, 4, 8, 0), (5, 9, 10, 2)))
        self.assertEqual(rules.Fee(steps, 4).form({}), ((0, 1, 0, 9), (2, 3, 14, 5), (4, 9, 21, 2)))

    def test_amounts_below_nought(self):
        named = ("Named", "b")
        for spec in all_over(named, ("Named", "a")):
            self.check(spec)
        self.assertEqual(rule_of(("Fee", named, 5)).cost(-2, FORMS), 25)
        self.assertIsNone(rule_of(("After", named, 5)).cost(-2, FORMS))

    def test_some_trees(self):
        source = chance(41)
        for _ in range(1500):
            self.check(self.some_tree(source, source.randrange(1, 5)))

    def some_tree(self, source, deep):
        if deep == 0 or source.randrange(6) == 0:
            return source.choice(LEAVES)
        one, other = self.some_tree(source, deep - 1), self.some_tree(source, deep - 1)
        return source.choice(all_over(one, other))

    def test_one_rule_in_several_places(self):
        shared = rules.Bands([(3, 5), (9, 2)])
        over = rules.Sum(rules.After(shared, 2), rules.Cheaper(shared, rules.Fee(shared, -7)))
        alone = ("Bands", [(3, 5), (9, 2)])
        spec = ("Sum", ("After", alone, 2), ("Cheaper", alone, ("Fee", alone, -7)))
        self.assertEqual(over.form({}), rule_of(spec).form({}))
        self.check(spec)
        self.assertEqual(shared.form({}), ((0, 3, 0, 5), (4, 9, 8, 2)))


class Far(Checks):
    def test_many_figures(self):
        self.check_far(("Each", -N, 5, N), {}, {4: None, 5: -5 * N, N: -N * N, N + 1: None})
        self.check_far(("Flat", N, 0, N), {}, {-1: None, 0: N, N: N, N + 1: None})
        self.check_far(("Blocks", N, -N, 40), {}, {
            0: 0, 1: -N, N: -N, N + 1: -2 * N, 40 * N: -40 * N, 39 * N + 1: -40 * N, 40 * N + 1: None,
        })

    def test_rows_of_many_figures(self):
        rows = [(N, N), (2 * N, -N), (3 * N, 1)]
        bands = {0: 0, N: N * N, N + 1: -N * N - N, 2 * N: -2 * N * N, 2 * N + 1: 2 * N + 1, 3 * N + 1: None}
        self.check_far(("Bands", rows), {}, bands)
        steps = {0: 0, N: N * N, N + 1: N * N - N, 2 * N: 0, 2 * N + 1: 1, 3 * N: N, 3 * N + 1: None}
        self.check_far(("Steps", rows), {}, steps)
        twenty = [(N + 7 * k, (-1) ** k * (N - k)) for k in range(20)]
        self.check_far(("Bands", twenty), {}, {N + 8: (N + 8) * (N - 2), N + 134: None})
        self.check_far(("Steps", twenty), {}, {N + 8: N * N - 7 * (N - 1) + N - 2, N + 134: None})

    def test_over_others(self):
        one, other = ("Steps", [(N, 3), (9 * N, 1)]), ("Flat", 5 * N, 7, 8 * N)
        self.check_far(("Sum", one, other), {}, {6: None, 7: 5 * N + 21, N + 1: 8 * N + 1, 8 * N + 1: None})
        lesser = {3 * N: 5 * N, 3 * N - 1: 5 * N - 1, 3 * N + 1: 5 * N, 8 * N + 1: 10 * N + 1}
        self.check_far(("Cheaper", one, other), {}, lesser)
        greater = {3 * N: 5 * N, 3 * N - 1: 5 * N, 3 * N + 1: 5 * N + 1, 8 * N + 1: None}
        self.check_far(("Dearer", one, other), {}, greater)
        self.check_far(("Only", one, N, N + 1), {}, {N - 1: None, N: 3 * N, N + 1: 3 * N + 1, N + 2: None})
        self.check_far(("After", one, N), {}, {0: 0, N: 0, N + 1: 3, 2 * N + 1: 3 * N + 1, 10 * N + 1: None})
        roomy = {1: 5, N: 2 * N + 2, N + 1: 2 * N + 2, N + 2: 2 * N + 4}
        self.check_far(("Roomy", ("Bands", [(N, 5), (9 * N, 2)])), {}, roomy)
        self.check_far(("Fee", one, -N), {}, {0: 0, 1: 3 - N, 9 * N: 10 * N})

    def test_two_hundred_rules(self):
        leaves = [("Each", k % 7 - 3, k % 5, 12 + k % 9) for k in range(67)]
        specs = [("Fee", leaf, k) if k % 2 else leaf for k, leaf in enumerate(leaves)]
        specs += [("After", ("Steps", [(9, k), (30, 1)]), 2) for k in range(17)]
        self.check_many(specs)

    def check_many(self, specs):
        kinds = ("Sum", "Cheaper", "Dearer", "Cheaper")
        while len(specs) > 1:
            over = [(kinds[k % 4], one, other) for k, (one, other) in enumerate(zip(specs[::2], specs[1::2]))]
            specs = over + specs[2 * len(over):]
        many = count_of(specs[0])[0]
        self.assertTrue(195 <= many <= 220, many)
        self.check(specs[0])

    def test_thirty_within_one_another(self):
        for leaf in (("Blocks", 3, 4, 3), ("Named", "a"), ("Bands", TWENTY)):
            spec = leaf
            others = (("Each", 2, 0, 40), ("Named", "b"), ("Flat", 30, 0, 90))
            for k in range(29):
                choices = all_over(spec, others[k % 3])
                spec = choices[(0, 1, 8, 7, 6, 2, 9, 1)[k % 8]]
            self.assertEqual(count_of(spec)[1], 30)
            self.check(spec)

    def test_thirty_of_one_class(self):
        for k in range(11):
            spec = ("Named", "a")
            for _ in range(33):
                spec = all_over(spec, ("Flat", 1, 0, 5))[k]
            self.check(spec)


class NothingKept(Checks):
    def test_rows_may_be_changed(self):
        for kind in (rules.Bands, rules.Steps):
            rows = [(3, 5), (7, 4)]
            rule, asked = kind(rows), kind([(3, 5), (7, 4)])
            rows.append((9, 9))
            rows[0] = (1, 1)
            self.assertEqual(rule.form({}), asked.form({}))
            self.assertEqual(rule.cost(7, {}), asked.cost(7, {}))
            self.assertEqual(rule.written(), asked.written())

    def test_rows_stay_as_they_were(self):
        for kind in (rules.Bands, rules.Steps):
            rows = [(3, 5), (7, 4)]
            rule = kind(rows)
            rule.form({})
            rule.cost(2, {})
            rule.written()
            self.assertEqual(rows, [(3, 5), (7, 4)])

    def test_the_dict_is_neither_changed_nor_kept(self):
        for spec in all_over(("Named", "a"), ("Named", "b")):
            rule, forms = rule_of(spec), dict(FORMS)
            first = rule.form(forms)
            rule.cost(3, forms)
            self.assertEqual(forms, FORMS)
            forms["a"] = forms["b"] = ((0, 9, 1, 1),)
            self.assertEqual(rule.form(forms), form_from(costs_of(spec, forms)))
            self.assertEqual(rule.cost(3, forms), costs_of(spec, forms).get(3))
            forms.clear()
            self.assertEqual(rule.form(FORMS), first)

    def test_asked_again(self):
        rule = rule_of(("Roomy", ("Cheaper", ("Named", "a"), ("Steps", [(3, 5), (7, 4)]))))
        self.assertEqual(rule.form(FORMS), rule.form(FORMS))
        self.assertEqual([rule.cost(x, FORMS) for x in range(-5, 9)], [rule.cost(x, FORMS) for x in range(-5, 9)])


class AsTheDeedsTell(unittest.TestCase):
    def test_blocks_by_up(self):
        for size in (1, 2, 7, N):
            rule = rules.Blocks(size, 3, 4)
            for x in (0, 1, size - 1, size, size + 1, 4 * size):
                if 0 <= x <= 4 * size:
                    self.assertEqual(rule.cost(x, {}), 3 * up(x, size))

    def test_a_named_form_itself(self):
        for name, form in FORMS.items():
            self.assertEqual(rules.Named(name).form(FORMS), form)
            self.assertEqual(rules.Named(name).form(FORMS), laid(list(form)))
