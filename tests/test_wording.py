import re
import unittest

from helper import chance, rule_of, words_of
from offerhouse import rules
from offerhouse.errors import BadRule
from offerhouse.forms import is_form
from offerhouse.wording import is_name, number_of, number_text, read_rule

WORDS = "each from to flat bands steps blocks at times plus or max only after roomy fee".split()
LONG = "9" * 40
FORMS = {"a": ((-4, -1, 9, -3), (0, 0, 7, 0), (2, 4, 1, 5)), "oak": ((0, 8, 20, -3),), "zzzzzzzz": ()}

LEAVES = [
    ("Each", 3, 0, 5), ("Each", -2, 4, 4), ("Each", 0, 0, 0), ("Each", -int(LONG), 0, int(LONG)),
    ("Flat", 4, 0, 7), ("Flat", -40, 3, 30), ("Flat", int(LONG), 10 ** 39, int(LONG)),
    ("Bands", [(4, 5)]), ("Bands", [(0, 9), (1, -1), (60, 0)]), ("Bands", [(k, -k) for k in range(20)]),
    ("Steps", [(0, 0)]), ("Steps", [(3, 5), (7, 4)]), ("Steps", [(k * k, 3 - k) for k in range(20)]),
    ("Blocks", 1, 5, 1), ("Blocks", 30, -5, 40), ("Blocks", int(LONG), 0, 2),
    ("Named", "a"), ("Named", "oak"), ("Named", "zzzzzzzz"),
]


def all_over(one, other):
    return [
        ("Sum", one, other), ("Cheaper", one, other), ("Dearer", one, other), ("Only", one, 0, 0), ("Only", one, 2, 50),
        ("After", one, 0), ("After", one, 30), ("Roomy", one), ("Fee", one, 60), ("Fee", one, -2), ("Fee", one, 0),
    ]


OVERS = all_over(("Named", "a"), ("Flat", 1, 0, 3))


def writes_rule(text):
    """Whether the text writes a rule: what stands by itself is cut down to <0>, and brackets from within outwards."""
    number = "(?:0|-?[1-9][0-9]{0,39})"
    patterns = (
        (f"(?:each|flat) {number} from ({number}) to ({number})", lambda found: span_is_right(*found.groups())),
        (f"(?:bands|steps)((?: {number}:{number})+)", lambda found: rows_are_right(found.group(1))),
        (f"blocks ({number}) at {number} times ({number})", lambda found: blocks_are_right(*found.groups())),
        ("([a-z]{1,8})", lambda found: found.group(1) not in WORDS),
    )
    for pattern, is_right in patterns:
        text = re.sub(f"(?<![^ ]){pattern}(?![^ ])", lambda found: "<0>" if is_right(found) else found.group(), text)
    ahead = None
    while text != ahead:
        ahead = text
        text = re.sub(r"\( <(\d+)> (?:plus|or|max) <(\d+)> \)", around, text)
        text = re.sub(rf"\( <(\d+)> (?:roomy|fee {number}) \)", around, text)
        text = re.sub(r"\( <(\d+)> after (?:0|[1-9][0-9]{0,39}) \)", around, text)
        text = re.sub(rf"\( <(\d+)> only ({number}) to ({number}) \)", only_around, text)
    return re.fullmatch(r"<(\d|1\d|20|21)>", text) is not None


def span_is_right(low, high):
    return 0 <= int(low) <= int(high)


def rows_are_right(rows):
    tops = [int(row.split(":")[0]) for row in rows.split()]
    return len(tops) <= 20 and tops == sorted(set(tops)) and tops[0] >= 0


def blocks_are_right(size, many):
    return int(size) >= 1 and 1 <= int(many) <= 40


def around(found):
    return "<" + str(max(int(height) for height in found.groups()) + 1) + ">"


def only_around(found):
    height, low, high = found.groups()
    return "<" + str(int(height) + 1) + ">" if span_is_right(low, high) else found.group()


class Names(unittest.TestCase):
    def check(self, text, asked):
        self.assertIs(is_name(text), asked, text)

    def test_lengths(self):
        for many in range(11):
            self.check("x" * many, 1 <= many <= 8)
            self.check("abcdefghij"[:many], 1 <= many <= 8)

    def test_each_letter(self):
        for letter in "abcdefghijklmnopqrstuvwxyz":
            self.check(letter, True)
            self.check("ok" + letter, True)
            self.check(letter.upper(), False)

    def test_each_other_sign(self):
        for sign in map(chr, range(32, 127)):
            for text in (sign, sign + "oak", "o" + sign + "k", "oak" + sign):
                self.check(text, sign.isalpha() and sign.islower())
        self.check(" ", False)
        self.check("oak ", False)
        self.check("Oak", False)
        self.check("oak2", False)

    def test_words_of_rules(self):
        for word in WORDS:
            self.check(word, False)
            for letter in "aesx":
                for place in range(len(word) + 1):
                    longer = word[:place] + letter + word[place:]
                    self.check(longer, longer not in WORDS)
            for place in range(len(word)):
                shorter = word[:place] + word[place + 1:]
                self.check(shorter, shorter not in WORDS)
            self.check(word.upper(), False)
            self.check(" " + word, False)

    def test_words_that_no_rule_is_written_with(self):
        for word in ("offer", "sum", "cheaper", "dearer", "named", "rule", "row", "unit", "low", "many", "not", "in"):
            self.check(word, True)


class Numbers(unittest.TestCase):
    NUMBERS = [0, 1, -1, 9, -9, 10, -10, 100, 12345678901, 10 ** 38, 10 ** 39 - 1, 10 ** 39, 10 ** 40 - 1]

    def test_written_and_read(self):
        self.assertEqual([number_text(x) for x in (0, 7, -7, 120, -30)], ["0", "7", "-7", "120", "-30"])
        for number in self.NUMBERS + [-number for number in self.NUMBERS if number]:
            text = number_text(number)
            self.assertIs(type(text), str)
            self.assertEqual(text, str(number))
            self.assertIs(type(number_of(text)), int)
            self.assertEqual(number_of(text), number)

    def test_lengths(self):
        for many in (1, 2, 39, 40):
            for text in ("1" + "0" * (many - 1), "9" * many):
                self.assertEqual(number_of(text), int(text))
                self.assertEqual(number_of("-" + text), -int(text))
        for many in (41, 42, 300, 400):
            for text in ("1" + "0" * (many - 1), "9" * many):
                self.refused(text)
                self.refused("-" + text)

    def refused(self, text):
        with self.assertRaises(BadRule, msg=text):
            number_of(text)

    def test_refused(self):
        for text in ("", "-", "--", "--1", "-0", "00", "01", "-01", "007", "+1", "+0", "+", "1-", "1-2", "-+1", "+-1"):
            self.refused(text)
        for text in (" ", " 1", "1 ", "1 2", "- 1", "-1 ", " -1", "1_0", "1_000", "_1", "1,0", "1.0", "1.", "1e3"):
            self.refused(text)
        for text in ("a", "1a", "a1", "-a", "0x1", "0b1", "1:2", "(", "(1)", "one", "0 ", "-0 ", "-00", "0-", "1\n"):
            self.refused(text)
        self.refused("0" * 40)
        self.refused("0" * 41)

    def test_each_sign(self):
        for sign in map(chr, range(32, 127)):
            if not sign.isdigit():
                for text in (sign, "1" + sign, "1" + sign + "1"):
                    self.refused(text)
                if sign != "-":
                    self.refused(sign + "1")


class Read(unittest.TestCase):
    def check(self, spec):
        text = words_of(spec)
        rule = read_rule(text)
        self.check_like(rule, spec)
        self.assertEqual(rule.written(), text)
        self.assertEqual(read_rule(rule.written()).written(), text)

    def check_like(self, rule, spec):
        """The rule is of the class of the tuple and tells what the one made of the tuple tells."""
        self.assertIs(type(rule), getattr(rules, spec[0]))
        made = rule_of(spec)
        self.assertEqual(rule.written(), made.written())
        self.assertEqual(rule.names(), made.names())
        self.assertEqual(rule.form(FORMS), made.form(FORMS))
        self.assertTrue(is_form(rule.form(FORMS)))
        for x in (-1, 0, 1, 2, 3, 7, 50, 10 ** 39):
            self.assertEqual(rule.cost(x, FORMS), made.cost(x, FORMS))

    def test_by_itself(self):
        for spec in LEAVES:
            self.check(spec)

    def test_over_each_by_itself(self):
        for place, spec in enumerate(LEAVES):
            for over in all_over(spec, LEAVES[place - 3]):
                self.check(over)

    def test_over_each_over(self):
        for place, spec in enumerate(OVERS):
            for over in all_over(spec, OVERS[place - 4]) + all_over(LEAVES[place], spec):
                self.check(over)

    def test_texts_as_the_document_writes_them(self):
        for text, asked in (
            ("each 5 from 0 to 9", [None, 0, 5, 45, None]), ("flat 5 from 0 to 9", [None, 5, 5, 5, None]),
            ("bands 1:7 9:2", [None, 0, 7, 18, None]), ("steps 1:7 9:2", [None, 0, 7, 23, None]),
            ("blocks 3 at 4 times 3", [None, 0, 4, 12, None]), ("oak", [None, 20, 17, None, None]),
            ("( oak plus each 5 from 0 to 9 )", [None, 20, 22, None, None]),
            ("( oak or each 5 from 0 to 9 )", [None, 0, 5, 45, None]),
            ("( oak max each 5 from 0 to 9 )", [None, 20, 17, None, None]),
            ("( each 5 from 0 to 9 only 1 to 8 )", [None, None, 5, None, None]),
            ("( each 5 from 0 to 9 after 1 )", [None, 0, 0, 40, 45]),
            ("( each -5 from 0 to 9 roomy )", [None, -45, -45, -45, None]),
            ("( each 5 from 0 to 9 fee 100 )", [None, 0, 105, 145, None]),
        ):
            rule = read_rule(text)
            self.assertEqual([rule.cost(x, FORMS) for x in (-1, 0, 1, 9, 10)], asked, text)
            self.assertEqual(rule.written(), text)

    def test_rows_end_where_the_next_word_stands(self):
        for word in ("plus", "or", "max"):
            text = f"( bands 1:2 3:4 {word} steps 5:6 )"
            self.assertEqual(read_rule(text).written(), text)
        self.assertEqual(read_rule("( steps 1:2 3:4 roomy )").written(), "( steps 1:2 3:4 roomy )")

    def halves(self, texts):
        if len(texts) == 1:
            return texts[0]
        half = len(texts) // 2
        return f"( {self.halves(texts[:half])} or {self.halves(texts[half:])} )"

    def test_close_to_4000_signs(self):
        rows = " ".join(f"{10 ** 39 + k}:-{LONG}" for k in range(20))
        for text in (
            self.halves(["oak"] * 364), self.halves(["a"] * 445), self.halves(["flat 1 from 0 to 5"] * 154),
            self.halves([f"bands {rows}", f"steps {rows}", f"( a only {LONG} to {LONG} )"]),
        ):
            self.assertTrue(3400 <= len(text) <= 4000, len(text))
            self.assertEqual(read_rule(text).written(), text)

    def test_the_same_again(self):
        for spec in LEAVES + OVERS:
            one, other = read_rule(words_of(spec)), read_rule(words_of(spec))
            self.assertIsNot(one, other)
            self.assertEqual(one.written(), other.written())
            told = one.names()
            told.append("x")
            self.assertEqual(one.names(), other.names())


class Brackets(unittest.TestCase):
    def deep(self, pairs, ahead, behind):
        return ahead * pairs + "oak" + behind * pairs

    WAYS = (
        ("( ", " roomy )"), ("( ", " fee -3 )"), ("( ", " after 0 )"), ("( ", " only 0 to 5 )"), ("( ", " or a )"),
        ("( a plus ", " )"), ("( flat 1 from 0 to 5 max ", " )"), ("( ( a roomy ) or ", " )"),
    )

    def test_within_twenty(self):
        # The innermost bracket of 21 pairs stands within 20 pairs.
        for ahead, behind in self.WAYS:
            many = 21 if "( (" not in ahead else 20
            for pairs in (1, 2, 19, 20, many):
                text = self.deep(pairs, ahead, behind)
                self.assertEqual(read_rule(text).written(), text)

    def test_within_more(self):
        for ahead, behind in self.WAYS:
            many = 21 if "( (" not in ahead else 20
            for pairs in (many + 1, many + 2, 29, 40, 100, 1900):
                with self.assertRaises(BadRule):
                    read_rule(self.deep(pairs, ahead, behind))

    def test_the_second_alone_within_more(self):
        deep = self.deep(20, "( ", " roomy )")
        for text in (f"( {deep} or a )", f"( a or {deep} )", f"( {deep} or {deep} )"):
            self.assertEqual(read_rule(text).written(), text)
        deeper = self.deep(21, "( ", " roomy )")
        for text in (f"( {deeper} or a )", f"( a or {deeper} )", f"( {deep} or {deeper} )"):
            with self.assertRaises(BadRule):
                read_rule(text)

    def test_one_behind_another_is_not_within(self):
        text = "a"
        while len(text) < 1900:
            text = f"( {text} or {text} )"
        self.assertGreater(text.count("("), 200)
        self.assertEqual(read_rule(text).written(), text)

    def test_too_many_or_too_few(self):
        for text in (
            "( a )", "( ( a roomy ) )", "( a roomy", "a roomy )", "( a roomy ) )", "( ( a roomy )", "( a roomy ) a",
            "( a or b", "a or b )", "a or b", "a roomy", "a fee 3", "( )", "(", ")", ") a roomy (", "( a or b ) or c",
            "( a or b or c )", "( a roomy fee 3 )", "( a or ( b )", "( a or b ) ) )", "( roomy )", "( or a )",
            "( a or )", "(a roomy)", "( a roomy)", "(a roomy )", "[ a roomy ]", "((", "( (", "( ( ( (",
            "( a or ( b or c ) ) )",
        ):
            with self.assertRaises(BadRule, msg=text):
                read_rule(text)


class Refused(unittest.TestCase):
    def refused(self, text):
        with self.assertRaises(BadRule, msg=text):
            read_rule(text)

    def test_empty_and_blanks(self):
        for text in ("", " ", "  ", " a", "a ", "a  ", "each  5 from 0 to 9", "each 5 from 0  to 9", "( a  roomy )"):
            self.refused(text)
        for spec in LEAVES + OVERS:
            text = words_of(spec)
            for bad in (" " + text, text + " ", text + "  ", text + "\n", "\n" + text, text + "\t", "\t" + text):
                self.refused(bad)
            for place, sign in enumerate(text):
                if sign == " ":
                    self.refused(text[:place] + " " + text[place:])
                    self.refused(text[:place] + "\t" + text[place + 1:])

    def test_spans(self):
        for kind in ("each 5 from", "flat 5 from"):
            for span in ("4 to 3", "1 to 0", f"{LONG} to {LONG[:-1]}8", "-1 to 3", "-3 to -1", "0 to -1", "-0 to 3"):
                self.refused(f"{kind} {span}")
                self.refused(f"( a only {span} )")
            for span in ("0 to 0", "3 to 3", f"0 to {LONG}", f"{LONG} to {LONG}"):
                self.assertEqual(read_rule(f"{kind} {span}").written(), f"{kind} {span}")
                self.assertEqual(read_rule(f"( a only {span} )").written(), f"( a only {span} )")

    def test_from_nought_on(self):
        for text in ("( a after -1 )", f"( a after -{LONG} )", "bands -1:5", "steps -1:5", "bands -1:5 3:4"):
            self.refused(text)
        for text in ("( a after 0 )", f"( a after {LONG} )", "bands 0:-5", f"steps 0:-5 {LONG}:-9", "( a fee -1 )"):
            self.assertEqual(read_rule(text).written(), text)

    def test_blocks(self):
        for text in (
            "blocks 0 at 5 times 3", "blocks -1 at 5 times 3", "blocks 3 at 5 times 0", "blocks 3 at 5 times -1",
            "blocks 3 at 5 times 41", f"blocks 3 at 5 times {LONG}", "blocks 3 at 5", "blocks 3 times 5 at 3",
        ):
            self.refused(text)
        for text in ("blocks 1 at 0 times 1", f"blocks {LONG} at -{LONG} times 40", "blocks 3 at -5 times 39"):
            self.assertEqual(read_rule(text).written(), text)

    def test_rows(self):
        twenty = " ".join(f"{k}:{-k}" if k else "0:0" for k in range(20))
        for kind in ("bands", "steps"):
            self.assertEqual(read_rule(f"{kind} {twenty}").written(), f"{kind} {twenty}")
            for rows in (
                f"{twenty} 20:1", f"{twenty} 20:1 21:1", "3:1 3:1", "3:1 3:2", "4:1 3:1", "1:1 5:1 4:1", "0:1 0:1",
                "1:1 2:2 2:3 4:4", "1:2:3", "1", "1:2 3", "3 1:2", ":", "1:", ":1", "1::2", "1:2:", ":1:2", "1:2 :",
                "1: 2", "1 :2", "1 : 2", "1:2,3:4", "01:2", "1:02", "1:-0", "-0:1", "1:+2", "+1:2", "a:1", "1:a",
                f"{LONG}9:1", f"1:{LONG}9", "1:2 a", "1:2 3:4 )", "( 1:2", "",
            ):
                self.refused(f"{kind} {rows}")
            self.refused(kind)
            self.refused(f"( {kind} roomy )")
            self.refused(f"( {kind} {twenty} 20:1 roomy )")

    def test_numbers(self):
        patterns = (
            "each {} from 0 to 9", "each 1 from {} to " + LONG, "each 1 from 0 to {}", "flat {} from 0 to 9",
            "flat 1 from {} to " + LONG, "flat 1 from 0 to {}", "bands {}:1", "bands 1:{}", "steps {}:1", "steps 1:{}",
            "blocks {} at 1 times 1", "blocks 1 at {} times 1", "( a only {} to " + LONG + " )", "( a only 0 to {} )",
            "( a after {} )", "( a fee {} )",
        )
        for pattern in patterns:
            for number in ("7", LONG, "10"):
                text = pattern.replace("{}", number)
                self.assertEqual(read_rule(text).written(), text)
            for number in ("", "-", "-0", "07", "+7", "7 ", " 7", "7 7", "x", "7x", LONG + "9", "1" + "0" * 40, "-07"):
                self.refused(pattern.replace("{}", number))
            self.refused(pattern.replace("{}", "-" + LONG + "9"))

    def test_names(self):
        for name in ("Oak", "oak1", "oak-", "ninesigns", "o_k", "oak:", "each", "to", "or", "fee", "7", "-7", "0"):
            self.refused(name)
            self.refused(f"( {name} roomy )")
            self.refused(f"( a or {name} )")

    def test_each_word_of_rules_by_itself(self):
        for word in WORDS:
            self.refused(word)
            self.refused(f"( a {word}")
            self.refused(f"( {word} a )")

    def test_one_word_out_doubled_put_in_or_exchanged(self):
        others = WORDS + ["(", ")", "", "a", "0", "7", "-7", "-0", "07", "1:2", "9:9", "1:2:3", "A", LONG + "9"]
        told = {True: 0, False: 0}
        deeper = all_over(OVERS[0], OVERS[6]) + all_over(("Bands", [(2, 5), (8, 4)]), OVERS[8])
        for spec in LEAVES[::2] + OVERS + deeper:
            words = words_of(spec).split()
            for place in range(len(words) + 1):
                ahead, behind = words[:place], words[place:]
                changed = [ahead + behind[1:], ahead + behind[:1] + behind]
                for other in others:
                    changed.append(ahead + [other] + behind)
                    changed.append(ahead + [other] + behind[1:])
                for row in changed:
                    told[self.check(" ".join(row))] += 1
        self.assertGreater(min(told.values()), 500, told)

    def check(self, text):
        asked = writes_rule(text)
        try:
            written = read_rule(text).written()
        except BadRule:
            self.assertFalse(asked, text)
            return False
        self.assertTrue(asked, text)
        self.assertEqual(written, text)
        return True

    def test_each_single_sign_changed(self):
        source = chance(41)
        for spec in LEAVES[::3] + OVERS:
            text = words_of(spec)
            for place in range(len(text)):
                for sign in ("", " ", "(", ")", "-", "0", "9", ":", "a", "Z", "~", source.choice("bcdefgxyz")):
                    self.check(text[:place] + sign + text[place:])
                    self.check(text[:place] + sign + text[place + 1:])

    def test_words_in_any_order(self):
        source = chance(42)
        words = WORDS + ["(", ")", "(", ")", "a", "oak", "0", "3", "5", "1:2", "7:-1"]
        for _ in range(3000):
            self.check(" ".join(source.choice(words) for _ in range(source.randrange(1, 9))))
