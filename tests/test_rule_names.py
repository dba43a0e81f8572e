import unittest

from helper import beside_ends, long_form, rule_of, words_of
from offerhouse.deeds import moved
from offerhouse.errors import NoOffer, TooMany
from offerhouse.forms import cost_at
from offerhouse.least import at_least

N = 10 ** 39 + 7
A, B, C = ("Named", "a"), ("Named", "b"), ("Named", "c")
SMALL = ((0, 4, 5, 2), (7, 9, 0, 0))


def all_over(one, other):
    return [
        ("Sum", one, other), ("Sum", other, one), ("Cheaper", one, other), ("Cheaper", other, one),
        ("Dearer", one, other), ("Dearer", other, one), ("Only", one, 0, 3), ("After", one, 2), ("Roomy", one),
        ("Fee", one, 6),
    ]


class Names(unittest.TestCase):
    def test_none(self):
        rows = [(1, 2)]
        for spec in (("Each", 1, 2, 3), ("Flat", 1, 2, 3), ("Bands", rows), ("Steps", rows), ("Blocks", 1, 2, 3)):
            self.assertEqual(rule_of(spec).names(), [])
            for over in all_over(spec, spec):
                self.assertEqual(rule_of(over).names(), [])

    def test_ascending_and_once(self):
        self.assertEqual(rule_of(A).names(), ["a"])
        self.assertEqual(rule_of(("Sum", C, ("Sum", A, B))).names(), ["a", "b", "c"])
        self.assertEqual(rule_of(("Cheaper", B, ("Dearer", B, ("Fee", B, 1)))).names(), ["b"])
        mixed = ("Sum", ("Named", "zoo"), ("Sum", ("Named", "ab"), ("Sum", ("Named", "b"), ("Named", "aa"))))
        self.assertEqual(rule_of(mixed).names(), ["aa", "ab", "b", "zoo"])
        self.assertEqual(rule_of(("Sum", ("Named", "abc"), ("Named", "ab"))).names(), ["ab", "abc"])

    def test_within_each_class(self):
        for over in all_over(A, ("Flat", 1, 0, 5)):
            self.assertEqual(rule_of(over).names(), ["a"])
        for over in all_over(("Fee", B, 3), A)[:6]:
            self.assertEqual(rule_of(over).names(), ["a", "b"])

    def test_the_list_is_the_askers_own(self):
        for spec, asked in ((A, ["a"]), (("Sum", B, A), ["a", "b"]), (("Roomy", A), ["a"]), (("Flat", 1, 2, 3), [])):
            rule = rule_of(spec)
            told = rule.names()
            self.assertIs(type(told), list)
            told.append("x")
            told.reverse()
            self.assertEqual(rule.names(), asked)
            self.assertIsNot(rule.names(), rule.names())


class NoOffers(unittest.TestCase):
    def refused(self, spec, forms, x=3):
        rule = rule_of(spec)
        with self.assertRaises(NoOffer):
            rule.form(forms)
        with self.assertRaises(NoOffer):
            rule.cost(x, forms)

    def test_a_name_that_is_not_there(self):
        self.refused(A, {})
        self.refused(A, {"b": SMALL})
        self.refused(("Named", "ab"), {"a": SMALL, "abc": SMALL})
        for spec in all_over(A, B):
            for x in (-5, 0, 3, 50, N):
                self.refused(spec, {"b": SMALL}, x)
                self.refused(spec, {}, x)

    def test_where_the_amount_would_not_ask_it(self):
        flat = ("Flat", 1, 0, 5)
        for x in (-1, 0, 3, 6, 99):
            self.refused(("Only", A, 4, 4), {}, x)
            self.refused(("After", A, 7), {}, x)
            self.refused(("Sum", flat, A), {}, x)
            self.refused(("Cheaper", flat, A), {}, x)
            self.refused(("Dearer", ("Only", flat, 1, 1), ("Roomy", ("Only", A, 2, 2))), {}, x)

    def test_where_the_other_one_offers_nothing(self):
        for spec in (("Sum", A, B), ("Dearer", A, B), ("Sum", B, A)):
            self.refused(spec, {"a": ()})

    def test_names_that_the_rule_does_not_have(self):
        forms = {"a": SMALL, "b": long_form(90), "zz": None, "c": "nothing of the kind"}
        for spec in (A, ("Fee", A, 2), ("Flat", 1, 0, 5), ("Sum", A, A)):
            rule = rule_of(spec)
            self.assertEqual(rule.form(forms), rule.form({"a": SMALL}))
            self.assertEqual(rule.cost(3, forms), rule.cost(3, {"a": SMALL}))

    def test_rules_without_names_ask_none(self):
        self.assertEqual(rule_of(("Flat", 1, 0, 5)).form({}), ((0, 5, 1, 0),))

    def test_ahead_of_too_many(self):
        big = long_form(61)
        for one, other in ((A, B), (B, A)):
            for spec in all_over(("Sum", one, other), one) + [("Sum", one, other), ("Sum", ("Roomy", one), other)]:
                self.refused(spec, {"a": big})


class TooManies(unittest.TestCase):
    def refused(self, spec, forms):
        with self.assertRaises(TooMany):
            rule_of(spec).form(forms)

    def test_a_form_of_the_dict(self):
        for count in (61, 62, 1000):
            forms = {"a": long_form(count), "b": SMALL}
            self.refused(A, forms)
            for spec in all_over(A, B):
                self.refused(spec, forms)
        forms = {"a": long_form(60), "b": SMALL}
        self.assertEqual(rule_of(A).form(forms), forms["a"])
        self.assertEqual(rule_of(("Fee", A, 0)).form(forms), forms["a"])
        self.assertEqual(rule_of(("Only", A, 0, 3)).form(forms), ((0, 1, 0, 0), (3, 3, 1, 0)))

    def test_cost_is_told(self):
        for count in (61, 1000):
            big = long_form(count)
            forms = {"a": big, "b": SMALL}
            roomy = at_least(big)
            for x in beside_ends(big)[::7]:
                cost = cost_at(big, x)
                self.assertEqual(rule_of(A).cost(x, forms), cost)
                self.assertEqual(rule_of(("Fee", A, 6)).cost(x, forms), cost if x == 0 or cost is None else cost + 6)
                self.assertEqual(rule_of(("Only", A, 0, 30)).cost(x, forms), cost if 0 <= x <= 30 else None)
            for x in (-1, 0, 1, 2, 3, 50, 179, 180):
                self.assertEqual(rule_of(("Roomy", A)).cost(x, forms), cost_at(roomy, x))
                self.assertEqual(rule_of(("Roomy", ("Cheaper", A, A))).cost(x, forms), cost_at(roomy, x))

    def test_a_form_made_of_smaller_ones(self):
        for one, other, told in ((30, 30, 60), (30, 31, None), (60, 1, None), (59, 1, 60)):
            forms = {"a": long_form(one), "b": long_form(other, 500)}
            spec = ("Cheaper", A, B)
            if told is None:
                self.refused(spec, forms)
                self.assertEqual(rule_of(spec).cost(500, forms), 0)
            else:
                self.assertEqual(len(rule_of(spec).form(forms)), told)

    def test_too_many_within_a_rule_of_few(self):
        forms = {"a": long_form(40), "b": moved(long_form(40), 500)}
        inner = ("Cheaper", A, B)
        self.refused(inner, forms)
        few = [
            ("Only", inner, 0, 1), ("Sum", inner, ("Flat", 1, 0, 1)), ("Sum", ("Flat", 1, 0, 1), inner),
            ("Dearer", inner, ("Flat", 1, 0, 1)), ("Cheaper", inner, ("Flat", -9, 0, 999)),
            ("Only", ("Fee", ("After", inner, 2), 5), 0, 1), ("Roomy", ("Only", inner, 0, 1)),
        ]
        for spec in few:
            self.refused(spec, forms)
            self.assertIsNotNone(rule_of(spec).cost(1, forms), spec)

    def test_too_many_by_roomy_and_after(self):
        # The gaps become stretches of their own.
        form = tuple((10 * k, 10 * k + 2, 100 * k, 1) for k in range(40))
        self.refused(("Roomy", A), {"a": form})
        self.assertEqual(rule_of(("Roomy", A)).cost(5, {"a": form}), 100)
        # What is free is a stretch of its own.
        most = ((0, 2, 0, 1),) + long_form(59, 9)
        self.assertEqual(rule_of(A).form({"a": most}), most)
        self.refused(("After", A, 9), {"a": most})
        self.assertEqual(rule_of(("After", A, 9)).cost(10, {"a": most}), 1)
        self.assertEqual(len(rule_of(("After", A, 9)).form({"a": most[:-1]})), 60)

    def test_blocks_and_rows_are_never_too_many(self):
        for spec in (("Blocks", 3, 5, 40), ("Blocks", 2, 5, 40), ("Bands", [(3 * k, k * k) for k in range(20)])):
            self.assertLessEqual(len(rule_of(spec).form({})), 60)


class Written(unittest.TestCase):
    def check(self, spec, asked):
        told = rule_of(spec).written()
        self.assertIs(type(told), str)
        self.assertEqual(told, asked)
        self.assertEqual(words_of(spec), asked)

    def test_each_class(self):
        self.check(("Each", 3, 4, 50), "each 3 from 4 to 50")
        self.check(("Flat", 3, 4, 50), "flat 3 from 4 to 50")
        self.check(("Bands", [(3, 4), (50, 6)]), "bands 3:4 50:6")
        self.check(("Bands", [(3, 4)]), "bands 3:4")
        self.check(("Steps", [(3, 4), (50, 6), (51, 7)]), "steps 3:4 50:6 51:7")
        self.check(("Blocks", 12, 30, 4), "blocks 12 at 30 times 4")
        self.check(("Named", "oak"), "oak")
        self.check(("Sum", A, B), "( a plus b )")
        self.check(("Cheaper", A, B), "( a or b )")
        self.check(("Dearer", A, B), "( a max b )")
        self.check(("Only", A, 3, 4), "( a only 3 to 4 )")
        self.check(("After", A, 3), "( a after 3 )")
        self.check(("Roomy", A), "( a roomy )")
        self.check(("Fee", A, 3), "( a fee 3 )")

    def test_below_nought_and_nought(self):
        self.check(("Each", -3, 0, 0), "each -3 from 0 to 0")
        self.check(("Flat", 0, 0, 5), "flat 0 from 0 to 5")
        self.check(("Flat", -10, 0, 5), "flat -10 from 0 to 5")
        self.check(("Bands", [(0, -4), (7, 0)]), "bands 0:-4 7:0")
        self.check(("Steps", [(0, 0), (7, -10)]), "steps 0:0 7:-10")
        self.check(("Blocks", 1, -3, 1), "blocks 1 at -3 times 1")
        self.check(("Only", A, 0, 0), "( a only 0 to 0 )")
        self.check(("After", A, 0), "( a after 0 )")
        self.check(("Fee", A, -3), "( a fee -3 )")
        self.check(("Fee", A, 0), "( a fee 0 )")

    def test_many_figures(self):
        n = str(N)
        self.check(("Each", -N, 0, N), "each -" + n + " from 0 to " + n)
        self.check(("Bands", [(N, -N)]), "bands " + n + ":-" + n)
        self.check(("Fee", ("After", A, N), -N), "( ( a after " + n + " ) fee -" + n + " )")

    def test_within_one_another(self):
        self.check(("Sum", ("Cheaper", A, B), ("Flat", 1, 2, 3)), "( ( a or b ) plus flat 1 from 2 to 3 )")
        self.check(("Dearer", ("Steps", [(1, 2), (3, 4)]), ("Roomy", C)), "( steps 1:2 3:4 max ( c roomy ) )")
        self.check(("Roomy", ("Only", ("Blocks", 1, 2, 3), 4, 5)), "( ( blocks 1 at 2 times 3 only 4 to 5 ) roomy )")
        self.check(("Fee", ("After", ("Each", 1, 2, 3), 4), 5), "( ( each 1 from 2 to 3 after 4 ) fee 5 )")

    def test_each_over_each(self):
        for inner in all_over(A, ("Bands", [(1, -2), (3, 4)])):
            for spec in all_over(inner, B):
                told = rule_of(spec).written()
                self.assertEqual(told, words_of(spec))
                self.assertEqual(told, " ".join(told.split()))

    def test_deep(self):
        spec = A
        for _ in range(33):
            spec = ("Roomy", spec)
        self.check(spec, "( " * 33 + "a" + " roomy )" * 33)

    def test_asked_again(self):
        rule = rule_of(("Sum", A, ("Steps", [(1, 2), (3, 4)])))
        self.assertEqual([rule.written() for _ in range(3)], ["( a plus steps 1:2 3:4 )"] * 3)
