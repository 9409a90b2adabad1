from itertools import product
from unittest.mock import patch

from formhelpers import some_form
from helpers import Case, chance_of, some_rule, some_web
from test_limits import pairs_web
from texthelpers import SIGNS, ended, is_text, plain_read, some_rule_tokens, spaced, web_tokens

from onebasis.errors import BadText
from onebasis.readers import (form_of_text, next_in_form, next_in_rule, next_in_rules, next_in_web, rule_of_text,
                              rules_of_text, web_of_text)
from onebasis.rules import Rule, ones
from onebasis.ruletexts import form_text, rule_text, rules_text
from onebasis.webs import Web

READ = {"rule": rule_of_text, "rules": rules_of_text, "form": form_of_text, "web": web_of_text}
NEXT = {"rule": next_in_rule, "rules": next_in_rules, "form": next_in_form, "web": next_in_web}


def some_text(chance, sort):
    """A made-up text of a sort."""
    prime = chance.choice((3, 5, 7, 13, 97))
    head = ["mod", str(prime)]
    if sort == "rule":
        return spaced(chance, head + some_rule_tokens(chance, prime, chance.randrange(7)))
    if sort == "rules":
        tokens = []
        for _ in range(chance.randrange(1, 4)):
            tokens += ["|"] + some_rule_tokens(chance, prime, chance.randrange(4))
        return spaced(chance, head + tokens)
    if sort == "form":
        many = chance.choice((0, 1, 2, 3, 4, 11, 12))
        flips = [str(k) for k in range(many) if chance.randrange(2)]
        numbers = [str(chance.randrange(prime)) for _ in range(many * (many - 1) // 2)]
        return spaced(chance, head + ["form", str(many), ":", str(chance.randrange(prime)), ":"] + flips + [":"] + numbers)
    web = some_web(chance, prime, chance.randrange(5), chance.randrange(6), 4)
    return spaced(chance, web_tokens(chance, web))


def beginning_of(sort, text):
    """The greatest number of signs that are a beginning, sign by sign."""
    for at, sign in enumerate(text):
        if sign not in NEXT[sort](text[:at])[1]:
            return at
    return len(text)


def limit_web(chance, prime=3):
    """A made-up web at the limits: 60 places, 200 ties, 8 outer legs."""
    counts = [8] * 42 + [4] * 18
    chance.shuffle(counts)
    legs = [(p, k) for p, many in enumerate(counts) for k in range(many)]
    chance.shuffle(legs)
    rules = [Rule(prime, [1] * (1 << many)) for many in counts]
    return Web(prime, rules, [(legs[2 * k], legs[2 * k + 1]) for k in range(200)], legs[400:])


class TextCase(Case):
    """A test case that can say how far a text is right."""

    def fails(self, sort, text, at):
        self.refuses(BadText, at, READ[sort], text)
        if at < len(text):
            self.refuses(BadText, at, NEXT[sort], text)
        else:
            self.assertIs(NEXT[sort](text)[0], False)


class Readers(TextCase):
    def test_texts_and_back(self):
        chance = chance_of(720)
        for number in range(150):
            rule = some_rule(chance, (3, 5, 97)[number % 3], chance.randrange(6))
            if number % 4 == 0:
                rule = ones(97, 8, [chance.randrange(97) for _ in range(9)])
            self.assertEqual(rule_of_text(rule_text(rule)), rule)
            rules = [some_rule(chance, 7, chance.randrange(3)) for _ in range(chance.randrange(1, 6))]
            self.same([type(x) for x in rules_of_text(rules_text(rules))], [Rule] * len(rules))
            self.assertEqual(rules_of_text(rules_text(rules)), rules)
            form = some_form(chance, (3, 97)[number % 2], chance.randrange(13))
            self.assertEqual(form_of_text(form_text(form)), form)
        self.assertEqual(rules_of_text(rules_text([Rule(3, [1])] * 60)), [Rule(3, [1])] * 60)
        form = some_form(chance, 97, 60)
        self.assertEqual(form_of_text(form_text(form)), form)
        self.assertEqual(rule_of_text("mod 5 <2 0 0 1> * [1 3]"), Rule(5, [2, 1, 0, 0, 0, 0, 0, 0, 0, 0, 0, 0, 0, 0, 1, 3]))
        self.assertEqual(form_of_text("mod 7 form 3 : 2 : 0 2 : 1 0 6").flips, (0, 2))

    def test_made_up_texts(self):
        chance = chance_of(721)
        for sort in READ:
            for _ in range(30):
                text = some_text(chance, sort)
                self.assertEqual(READ[sort](text), plain_read(sort, text))
                for at in range(len(text) + 1):
                    whole, signs = NEXT[sort](text[:at])
                    self.assertIs(whole, is_text(sort, text[:at]))
                    self.assertIs(type(signs), str)
                    if at < len(text):
                        self.assertIn(text[at], signs)
                        if not whole:
                            self.refuses(BadText, at, READ[sort], text[:at])

    def test_each_beginning_is_one(self):
        chance = chance_of(722)
        for sort in READ:
            for _ in range(60):
                text = some_text(chance, sort)
                begun = text[:chance.randrange(len(text) + 1)]
                for _ in range(chance.randrange(1, 4)):
                    signs = NEXT[sort](begun)[1]
                    begun += chance.choice(signs)
                told = ended(sort, begun, NEXT[sort])
                self.assertTrue(told.startswith(begun))
                self.assertEqual(READ[sort](told), plain_read(sort, told))

    def test_bent_texts(self):
        chance = chance_of(723)
        found = {True: 0, False: 0}
        for sort in READ:
            for _ in range(80):
                text = some_text(chance, sort)
                at = chance.randrange(len(text))
                bent = text[:at] + chance.choice(SIGNS + ",.-A{") + text[at + chance.randrange(2):]
                if is_text(sort, bent):
                    self.assertEqual(READ[sort](bent), plain_read(sort, bent))
                else:
                    self.fails(sort, bent, beginning_of(sort, bent))
                found[is_text(sort, bent)] += 1
        self.assertGreater(min(found.values()), 4)

    def test_next_signs(self):
        chance = chance_of(724)
        for sort in READ:
            for _ in range(15):
                text = some_text(chance, sort)
                text = text[:chance.randrange(len(text) + 1)]
                whole, signs = NEXT[sort](text)
                self.assertEqual(signs, "".join(sorted(signs)))
                for sign in SIGNS + ",-A\n\t":
                    if sign in signs:
                        NEXT[sort](text + sign)
                    else:
                        self.refuses(BadText, len(text), NEXT[sort], text + sign)
                        self.refuses(BadText, len(text), READ[sort], text + sign)

    def test_all_short_rules_and_webs(self):
        for sort, signs, most in (("rule", "[]<>* 03", 5), ("web", "|:[]0a ", 6)):
            every = ["".join(told) for many in range(most + 1) for told in product(signs, repeat=many)]
            texts = [told for told in every if is_text(sort, "mod 5" + told)]
            begun = {told[:many] for told in texts for many in range(len(told) + 1)}
            for told in every:
                if len(told) <= 2:
                    try:
                        NEXT[sort]("mod 5" + told)
                        self.assertIn(told, begun)
                    except BadText as error:
                        self.assertNotIn(told, begun)
                        self.assertLess(error.at, 5 + len(told))
            for told in texts[::7]:
                self.assertEqual(READ[sort]("mod 5" + told), plain_read(sort, "mod 5" + told))
            for told in every[::11]:
                if told not in texts:
                    with self.assertRaises(BadText):
                        READ[sort]("mod 5" + told)

    def test_any_kind(self):
        for sort in READ:
            for thing in (None, 5, True, b"mod 3 [1]", ["mod"], ("mod 3 [1]",), {}, 1.0):
                self.refuses(BadText, None, READ[sort], thing)
                self.refuses(BadText, None, NEXT[sort], thing)
            self.same(NEXT[sort](""), (False, " m"))
            self.same(NEXT[sort]("  m"), (False, "o"))
            self.fails(sort, "", 0)
            for text, at in (("moda", 3), ("modd", 3), ("Mod", 0), ("mode 5", 3), ("mod mod", 4), ("mod 1 ", 5), ("mod 2", 5),
                             ("mod 2 ", 5), ("mod 4", 5), ("mod 03", 4), ("mod 99", 5), ("mod 973", 6), ("mod 9 7", 5),
                             ("mod 0", 4), ("mod\t5", 3), ("mod\n", 3), ("\u00b2", 0), ("mod \u0663", 4), ("mod 5,", 5),
                             ("mod 1" + "1" * 5000, 6), ("mod " + "9" * 5000, 5), ("m" * 5000, 1), ("mod 101", 5)):
                self.fails(sort, text, at)
            self.same(NEXT[sort]("mod 8"), (False, "39"))
            self.same(NEXT[sort]("mod 2"), (False, "39"))
        self.same(NEXT["rule"]("mod 5"), (False, " 39<["))
        self.same(NEXT["rule"]("mod 13"), (False, " <["))
        self.same(NEXT["rules"]("mod13 "), (False, " |"))
        self.same(NEXT["form"]("mod 3"), (False, " 17f"))
        self.same(NEXT["web"]("mod 7"), (False, " 139:|"))


class RuleLimits(TextCase):
    def test_numbers_and_tables(self):
        for text, at in (("mod 5 [5]", 7), ("mod 5 [05]", 8), ("mod 5 [00]", 8), ("mod 5 [12]", 8), ("mod 13 [13]", 9),
                         ("mod 5 []", 7), ("mod 5 <>", 7), ("mod 5 [1 2 3]", 12), ("mod 5 [1 2 3 4 0]", 16),
                         ("mod 5 [1>", 8), ("mod 5 <1]", 8), ("mod 5 [1] [1]", 10), ("mod 5 * [1]", 6), ("mod 5 [1] * * [1]", 12),
                         ("mod 5 [1 [", 9), ("mod 5 [1", 8), ("mod 5 [1] *", 11), ("mod 5", 5), ("mod 5 [a]", 7),
                         ("mod 5 [1]x", 9), ("mod 5 [1]|", 9), ("mod 5 [1]:", 9), ("mod 5 [ 1 ] 2", 12)):
            self.fails("rule", text, at)
        self.same(next_in_rule("mod 13 [1"), (False, " 012]"))
        self.same(next_in_rule("mod 13 [0"), (False, " ]"))
        self.same(next_in_rule("mod 97 [9"), (False, " 0123456]"))
        self.same(next_in_rule("mod 97 [1 2 "), (False, " 0123456789]"))
        self.same(next_in_rule("mod 97 [1 2 3 "), (False, " 0123456789"))
        self.same(next_in_rule("mod 97 [1 2 3 10"), (False, " ]"))

    def test_legs(self):
        nine = " ".join(["1"] * 9)
        self.assertEqual(rule_of_text(f"mod 5 <{nine}>"), ones(5, 8, [1] * 9))
        self.fails("rule", f"mod 5 <{nine} 1>", 7 + len(nine) + 1)
        self.same(next_in_rule(f"mod 5 <{nine}"), (False, " >"))
        self.same(next_in_rule(f"mod 5 <{nine} "), (False, " >"))
        many = " ".join(["1"] * 256)
        self.assertEqual(rule_of_text(f"mod 5 [{many}]"), Rule(5, [1] * 256))
        self.same(next_in_rule(f"mod 5 [{many} "), (False, " ]"))
        self.fails("rule", f"mod 5 [{many} 1", 7 + len(many) + 1)
        self.same(next_in_rule(f"mod 5 <{nine}> * "), (False, " <["))
        for sign, other in ("[]", "<>"):
            self.same(next_in_rule(f"mod 5 <{nine}> * {sign}1 "), (False, " " + other))
            self.assertEqual(rule_of_text(f"mod 5 <{nine}> * {sign}2{other} * [3]"), ones(5, 8, [1] * 9))
        seven = " ".join(["1"] * 8)
        self.same(next_in_rule(f"mod 5 <{seven}> * [1 "), (False, " 01234]"))
        self.same(next_in_rule(f"mod 5 <{seven}> * [1 1 "), (False, " ]"))
        self.same(next_in_rule(f"mod 5 <{seven}> * <1 1 "), (False, " >"))
        # Three numbers in a table need two legs.
        self.same(next_in_rule("mod 5 <1 1 1 1 1 1 1> * [1 1 "), (False, " 01234]"))
        self.same(next_in_rule("mod 5 <1 1 1 1 1 1 1> * [1 1 1 1 "), (False, " ]"))

    def test_lists_of_rules(self):
        self.assertEqual(rules_of_text("mod 5|[1]|[2 3]"), [Rule(5, [1]), Rule(5, [2, 3])])
        for text, at in (("mod 5", 5), ("mod 5 [1]", 6), ("mod 5 | | [1]", 8), ("mod 5 | [1] |", 13), ("mod 5 | [1] :", 12),
                         ("mod 5 | [1] a", 12), ("mod 5 :", 6)):
            self.fails("rules", text, at)
        sixty = "mod 5" + " | [1]" * 60
        self.assertEqual(len(rules_of_text(sixty)), 60)
        self.same(next_in_rules(sixty), (True, " *"))
        self.same(next_in_rules(sixty[:-6]), (True, " *|"))
        self.fails("rules", sixty + "|", len(sixty))
        # Each rule has its own legs.
        eight = " | <1 1 1 1 1 1 1 1 1>"
        self.same(next_in_rules("mod 5" + eight + " | <1 1 1 1 1 1 1 1 "), (False, " 01234>"))

    def test_forms(self):
        for text, at in (("mod 5 from", 7), ("mod 5 form", 10), ("mod 5 form 61", 12), ("mod 5 form 7 8", 13),
                         ("mod 5 form 601", 13), ("mod 5 form 06", 12), ("mod 5 form 3 : 5", 15), ("mod 5 form 3 : 1 :: 1", 21),
                         ("mod 5 form 3 : 1 1", 17), ("mod 5 form 3 : : ", 15), ("mod 5 form 3 : 1 : 3", 19),
                         ("mod 5 form 3 : 1 : 1 0", 21), ("mod 5 form 3 : 1 : 1 1", 21), ("mod 5 form 3 : 1 : 2 1", 21),
                         ("mod 5 form 0 : 1 : 0", 19), ("mod 5 form 1 : 1 : 0 : 0", 23), ("mod 5 form 0:0::0", 16),
                         ("mod 5 form 3:1::1 2 3 4", 22), ("mod 5 form 3:1::1 2 5", 20), ("mod 5 form 3:1::1 2 3:", 21),
                         ("mod 5 [1]", 6), ("mod 5 | form", 6), ("mod 5 form form", 11), ("mod 5 formx", 10)):
            self.fails("form", text, at)
        self.same(next_in_form("mod 5 form 6"), (False, " 0:"))
        self.same(next_in_form("mod 5 form 60:1:"), (False, " 0123456789:"))
        self.same(next_in_form("mod 5 form 60:1:9"), (False, " :"))
        self.same(next_in_form("mod 5 form 60:1:9 "), (False, " 12345:"))
        self.same(next_in_form("mod 5 form 60:1:9 1"), (False, "0123456789"))
        self.same(next_in_form("mod 5 form 60:1:9 5"), (False, "0123456789"))
        self.same(next_in_form("mod 5 form 60:1:58 "), (False, " 5:"))
        self.same(next_in_form("mod 5 form 60:1:58 5"), (False, "9"))
        self.same(next_in_form("mod 5 form 60:1:59 "), (False, " :"))
        self.same(next_in_form("mod 5 form 12:1:0 "), (False, " 123456789:"))
        self.same(next_in_form("mod 5 form 12:1:0 1"), (False, " 01:"))
        self.same(next_in_form("mod 5 form 12:1:3 1"), (False, "01"))
        self.same(next_in_form("mod 5 form 2:1::"), (False, " 01234"))
        self.same(next_in_form("mod 5 form 2:1::4"), (True, " "))
        self.same(next_in_form("mod 5 form 1:1::"), (True, " "))
        self.fails("form", "mod 5 form 12:1:3 1 ", 19)


class WebLimits(TextCase):
    def test_words(self):
        for text, at in (("mod 5 | [1] a", 12), ("mod 5 | [1 2] : a", 14), ("mod 5 | [1 2] a b", 16), ("mod 5 | [1 2] a :", 17),
                         ("mod 5 | [1 2] a : b", 18), ("mod 5 | [1 2] a : a a", 20), ("mod 5 | [1 2] a | [1 2] a : a", 28),
                         ("mod 5 | [1 2] a | [1 2] a | [1 2] a :", 35), ("mod 5 [1]", 6), ("mod 5 a", 6), ("mod 5 : :", 8),
                         ("mod 5 : |", 8), ("mod 5 | [1 2] a * [1]", 16), ("mod 5 | [1 2] | [1]", 14), ("mod 5 |", 7),
                         ("mod 5 | [1 2] aaaaaaaaaaaaa", 26),
                         ("mod 5 | [1 2] aaaaaaaaaaaaa : aaaaaaaaaaaaa", 26), ("mod 5 | [1 2] a : ab", 19), ("mod 5 | [1 2] a [1]", 16),
                         ("mod 5 | a", 8), ("mod 5 | [1 2] 1", 14), ("mod 5 | [1 2] ab : a :", 20)):
            self.fails("web", text, at)
        web = web_of_text("mod5|[1 2]mod|<1 2 3>form mod:form")
        self.assertEqual(web, Web(5, [Rule(5, [1, 2]), ones(5, 2, [1, 2, 3])], [((0, 0), (1, 1))], [(1, 0)]))
        letters = "abcdefghijklmnopqrstuvwxyz"
        # A word that stands twice may begin another one.
        self.same(next_in_web("mod 5 | <1 2 3> a a | [1 2] a"), (False, letters))
        self.same(next_in_web("mod 5 | <1 2 3> a ab | [1 2] a"), (False, " :" + letters + "|"))
        self.same(next_in_web("mod 5 | <1 2 3> a ab : "), (False, " a"))
        self.same(next_in_web("mod 5 | <1 2 3> a ab : a"), (False, " b"))
        self.same(next_in_web("mod 5 | <1 2 3> a ab : ab "), (False, " a"))
        self.same(next_in_web("mod 5 | <1 2 3> b ab : a"), (False, "b"))
        twelve = "a" * 12
        self.same(next_in_web(f"mod 5 | [1 2] {twelve}"), (False, " :|"))
        self.same(next_in_web(f"mod 5 | <1 2 3> {twelve} {twelve} | [1 2] {twelve[:11]}"), (False, " :" + letters[1:] + "|"))
        self.fails("web", f"mod 5 | <1 2 3> {twelve} {twelve} | [1 2] {twelve}", 61)

    def test_no_new_word_is_left(self):
        # All words that begin with eleven letters stand twice: none of them can come again.
        stem = "q" * 11
        words = [stem] + [stem + letter for letter in "abcdefghijklmnopqrstuvwxyz"]
        text = "mod 3"
        for word in words:
            text += f" | <1 0 1> {word} {word}"
        self.same(next_in_web(text + " | [1 1] " + stem[:10])[1][-2:], "z|")
        told = next_in_web(text + " | [1 1] " + stem[:10])[1]
        self.assertNotIn("q", told)
        self.assertIn("p", told)
        self.fails("web", text + " | [1 1] " + stem, len(text) + 19)
        less = text.replace(f" | <1 0 1> {stem}g {stem}g", "")
        self.same(next_in_web(less + " | [1 1] " + stem), (False, "g"))
        once = text.replace(f" | <1 0 1> {stem}g {stem}g", f" | [1 1] {stem}g")
        self.same(next_in_web(once + " | [1 1] " + stem), (False, "g"))

    def test_outer_legs(self):
        nine = "mod 3 | <1 0 0 0 0 0 0 0 0> a b c d e f g h | [1 1] i"
        self.fails("web", nine + " :", len(nine) + 1)
        self.same(next_in_web(nine + " "), (False, " |"))
        eight = nine[:-len(" | [1 1] i")]
        self.same(next_in_web(eight + ":"), (False, " abcdefgh"))
        self.assertEqual(len(web_of_text(eight + ": h g f e d c b a").outer), 8)

    def test_places(self):
        sixty = "mod 3" + " | [1]" * 60
        self.same(next_in_web(sixty), (False, " *:"))
        self.assertEqual(len(web_of_text(sixty + ":").rules), 60)
        self.fails("web", sixty + "|", len(sixty))
        # At the last place nine words that stand once must come to eight.
        legs = " ".join("abcdefgh")
        last = f"mod 3 | <1 0 0 0 0 0 0 0 0> {legs}" + " | [1]" * 57 + " | [1 1] i | "
        self.same(next_in_web(last + "[1"), (False, " ]"))
        self.same(next_in_web(last + "[1]"), (False, " *"))
        self.same(next_in_web(last + "[1 1] "), (False, " *abcdefghi"))
        self.same(next_in_web(last + "[1 1] i "), (False, " :"))
        # Two legs leave nine that stand once, or eleven, or seven.
        self.same(next_in_web(last + "[1 1 1 1] "), (False, " *abcdefghi"))
        self.same(next_in_web(last + "[1 1 1 1]*[1 1] "), (False, " *abcdefghijklmnopqrstuvwxyz"))
        self.same(next_in_web(last + "[1 1 1 1]*[1 1] j "), (False, " abcdefghij"))

    def test_ties(self):
        chance = chance_of(725)
        web = limit_web(chance)
        self.assertEqual((len(web.rules), len(web.ties), len(web.outer)), (60, 200, 8))
        full = "mod 3"
        for n in range(50):
            words = [f"{'abcdefghijklmnopqrstuvwxyz'[n % 26]}{'abc'[n // 26]}{letter}" for letter in "abcd"]
            full += " | <1 0 0 0 0 0 0 0 0> " + " ".join(words * 2)
        self.same(next_in_web(full + " "), (False, " :|"))
        # With 200 ties there may be eight outer legs more, and none else.
        self.same(next_in_web(full + " | <1 0 0 0 0 0 0 0 0> x y z u v w t")[1], " abcdefghijklmnopqrstuvwxyz")
        eight = full + " | <1 0 0 0 0 0 0 0 0> x y z u v w t s"
        self.same(next_in_web(eight + " "), (False, " :|"))
        self.same(next_in_web(eight + " | [1 "), (False, " ]"))
        self.same(next_in_web(eight + " | [1]"), (False, " *:|"))
        self.same(next_in_web(full + " | [1 1] x | [1 1] "), (False, " *abcdefghijklmnopqrstuvwxyz"))
        # What stands once cannot be closed: there would be 201 ties.
        self.same(next_in_web(full + " | [1 1] x | [1 1] x"), (False, "abcdefghijklmnopqrstuvwxyz"))
        self.same(next_in_web(full + " | <1 0 1> x"), (False, " abcdefghijklmnopqrstuvwxyz"))
        # A word of twelve letters that stands once can neither be closed nor be a new one.
        letters = "abcdefghijklmnopqrstuvwxyz"
        self.same(next_in_web(full + " | [1 1] " + "x" * 12 + " | [1 1] " + "x" * 11), (False, " :" + letters.replace("x", "") + "|"))
        self.same(next_in_web("mod 3 | [1 1] " + "x" * 12 + " | [1 1] " + "x" * 11), (False, " :" + letters + "|"))

    def test_at_the_limits(self):
        chance = chance_of(726)
        for _ in range(2):
            web = limit_web(chance)
            text = spaced(chance, web_tokens(chance, web, 5, 2))
            self.assertEqual(web_of_text(text), plain_read("web", text))
            for number in range(16):
                back = chance.randrange(80 if number < 4 else len(text))
                whole, signs = next_in_web(text[:len(text) - back])
                self.assertIs(whole, is_text("web", text[:len(text) - back]))
                if back > 0:
                    self.assertIn(text[-back], signs)
                if number < 4:
                    begun = text[:len(text) - back] + chance.choice(signs)
                    told = ended("web", begun, next_in_web)
                    self.assertTrue(told.startswith(begun))
                    self.assertTrue(is_text("web", told))
        text = spaced(chance, web_tokens(chance, pairs_web(97, Rule(97, [1] * 256)), 5, 8))
        self.assertEqual(web_of_text(text), plain_read("web", text))


PARTS = {
    0: ["[ 0 ]"],
    1: ["[ 0 0 ]", "[ 0 0 ] * [ 0 ]", "[ 0 ] * [ 0 0 ]"],
    2: ["[ 0 0 0 0 ]", "[ 0 0 ] * [ 0 0 ]", "[ 0 0 ] * [ 0 ] * [ 0 0 ]"],
}


class SmallLimits(TextCase):
    """With smaller limits all texts of few parts are gone through, and what may come next is read off them."""

    def test_what_comes_next(self):
        for legs, places, ties in ((1, 3, 1), (1, 4, 1), (1, 4, 2), (2, 2, 1), (2, 2, 2), (2, 3, 1)):
            self.words = "abcdefgh"[:legs * places]
            self.limits = (legs, places, ties)
            self.behind = {}
            self.places([], 0, [], 0, 0)
            with patch.multiple("onebasis.readings", MOST_LEGS=legs, MOST_PLACES=places, MOST_TIES=ties):
                for begun, told in self.behind.items():
                    self.check(begun, told)

    def places(self, tokens, many, once, twice, fresh):
        """All texts that go on so behind a whole place."""
        legs, places, ties = self.limits
        if len(once) <= legs and twice <= ties:
            for outer in (once, once[::-1]):
                self.told(tokens + [":"] + outer)
        if many < places:
            for left in range(legs + 1):
                for rule in PARTS[left]:
                    self.place(tokens + ["|"] + rule.split(), many + 1, once, twice, fresh, left)

    def place(self, tokens, many, once, twice, fresh, left):
        """All texts that go on so where a place has so many legs without a word."""
        if left == 0:
            self.places(tokens, many, once, twice, fresh)
            return
        for word in once:
            self.place(tokens + [word], many, [x for x in once if x != word], twice + 1, fresh, left - 1)
        if fresh < len(self.words):
            word = self.words[fresh]
            self.place(tokens + [word], many, once + [word], twice, fresh + 1, left - 1)

    def told(self, tokens):
        for k in range(len(tokens) + 1):
            self.behind.setdefault(tuple(tokens[:k]), set()).add(tokens[k] if k < len(tokens) else None)

    def check(self, begun, told):
        whole, signs = next_in_web(" ".join(("mod", "3") + begun) + " ")
        self.assertIs(whole, None in told, begun)
        row = " ".join(begun).split("|")[-1]
        if "*" in row and not any(word in row for word in self.words):
            # Here further parts may come that are not gone through.
            return
        found = set(signs) - set(" *<12")
        wanted = told - {None, "*"}
        if ":" not in begun and wanted & (set(self.words) - set(begun)):
            # One new word stands for all of them, and each word may begin one.
            self.assertTrue(set("abcdefghijklmnopqrstuvwxyz") <= found, begun)
            found, wanted = [x - set("abcdefghijklmnopqrstuvwxyz") for x in (found, wanted)]
        self.assertEqual(found, wanted, begun)
