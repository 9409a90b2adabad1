from itertools import product

from formhelpers import some_form, zero_form
from helpers import ODD_THINGS, Case, chance_of, some_rule

from onebasis.errors import BadForm, BadRule
from onebasis.forms import Form
from onebasis.rules import Rule, beside, ones, scaled
from onebasis.ruletexts import form_text, rule_parts, rule_text, rules_text


def rule_of_parts(prime, parts):
    """The rule of the parts beside one another."""
    out = Rule(prime, [1])
    for word, numbers in parts:
        part = Rule(prime, numbers) if word == "table" else ones(prime, len(numbers) - 1, numbers)
        out = beside(out, part)
    return out


def legs_of(part):
    word, numbers = part
    return len(numbers) - 1 if word == "ones" else len(numbers).bit_length() - 1


def all_parts(prime, legs):
    """All lists of parts for so many legs, each but the first one beginning with 1 where it is not 0."""
    found = []
    for cuts in product((0, 1), repeat=max(legs - 1, 0)):
        bounds = [0] + [k + 1 for k, cut in enumerate(cuts) if cut] + [legs]
        lots = []
        for at, (low, high) in enumerate(zip(bounds, bounds[1:])):
            many = high - low
            told = [("table", numbers) for numbers in product(range(prime), repeat=1 << many)]
            if many > 1:
                told += [("ones", numbers) for numbers in product(range(prime), repeat=many + 1)]
            if at:
                told = [(word, numbers) for word, numbers in told if next((x for x in numbers if x), 1) == 1]
            lots.append(told)
        found += [list(parts) for parts in product(*lots)]
    return found


def kind_of(parts):
    """What is the least of all that the parts of a rule are chosen by."""
    return (sum(len(numbers) for _, numbers in parts), len(parts), [-legs_of(part) for part in parts])


class RuleTexts(Case):
    def test_by_hand(self):
        rule = beside(ones(5, 3, [2, 0, 0, 1]), Rule(5, [1, 3]))
        self.same(rule_parts(rule), [("ones", (2, 0, 0, 1)), ("table", (1, 3))])
        self.same(rule_text(rule), "mod 5 <2 0 0 1> * [1 3]")
        self.same(form_text(Form(7, 2, (0, 2), [[0, 1, 0], [6, 0, 6], [0, 1, 0]])), "mod 7 form 3 : 2 : 0 2 : 1 0 6")
        self.same(rule_text(Rule(7, [4])), "mod 7 [4]")
        self.same(rule_text(Rule(7, [0])), "mod 7 [0]")
        self.same(rule_text(Rule(7, [0, 0])), "mod 7 [0 0]")
        self.same(rule_text(Rule(7, [0] * 256)), "mod 7 <0 0 0 0 0 0 0 0 0>")
        self.same(rule_text(Rule(7, [1] * 4)), "mod 7 <1 1 1>")
        # As many numbers either way, so the fewest parts.
        self.same(rule_text(Rule(7, [0, 0, 2, 6])), "mod 7 [0 0 2 6]")
        self.same(rule_text(Rule(7, [0, 0, 0, 0, 2, 6, 4, 5])), "mod 7 [0 0 2 4] * [1 3]")
        self.same(rule_text(Rule(7, [1, 2, 3, 4])), "mod 7 [1 2 3 4]")
        self.same(rules_text([Rule(7, [4]), Rule(7, [1] * 4)]), "mod 7 | [4] | <1 1 1>")
        self.same(rules_text((rule,)), "mod 5 | <2 0 0 1> * [1 3]")
        self.same(form_text(Form(7, 3, (), [])), "mod 7 form 0 : 3 : :")
        self.same(form_text(Form(7, 3, (0,), [[0]])), "mod 7 form 1 : 3 : 0 :")
        self.same(form_text(zero_form(97, 2)), "mod 97 form 2 : 0 : : 0")

    def test_parts_against_trying_all(self):
        best = {}
        for legs in range(3):
            for parts in all_parts(3, legs):
                key = (legs, rule_of_parts(3, parts).table)
                if key not in best or kind_of(parts) < kind_of(best[key]):
                    best[key] = parts
            for table in product(range(3), repeat=1 << legs):
                told = rule_parts(Rule(3, table))
                self.same(told, best[legs, table])

    def test_parts_of_more_legs(self):
        chance = chance_of(710)
        found = {}
        for number in range(300):
            prime, legs = (3, 5)[number % 2], 0
            rule = Rule(prime, [chance.randrange(1, prime)])
            for _ in range(chance.randrange(1, 5)):
                many = chance.randrange(min(4, 9 - rule.legs))
                part = chance.choice([some_rule(chance, prime, many),
                                      ones(prime, many, [chance.randrange(prime) for _ in range(many + 1)])])
                if any(part.table):
                    rule = beside(rule, part)
            told = rule_parts(rule)
            self.assertEqual(rule_of_parts(prime, told), rule)
            wanted = self.least_parts(rule)
            self.same([legs_of(part) for part in told], wanted[1])
            self.assertEqual(sum(len(numbers) for _, numbers in told), wanted[0])
            for at, (word, numbers) in enumerate(told):
                by_ones = rule_is_by_ones(Rule(prime, numbers)) if word == "table" else True
                self.assertIs(word == "ones", legs_of((word, numbers)) > 1 and by_ones)
                self.assertTrue(at == 0 or next(x for x in numbers if x) == 1)
            found[len(told)] = found.get(len(told), 0) + 1
        self.assertGreater(min(found.get(many, 0) for many in (1, 2, 3, 4)), 10)

    def least_parts(self, rule):
        """The fewest numbers, and the legs of the parts with these, by trying all ways to part the legs."""
        found = []
        for cuts in product((0, 1), repeat=max(rule.legs - 1, 0)):
            bounds = [0] + [k + 1 for k, cut in enumerate(cuts) if cut] + [rule.legs]
            spans = list(zip(bounds, bounds[1:]))
            base = next(k for k, x in enumerate(rule.table) if x)
            parts = []
            for low, high in spans:
                shift = rule.legs - high
                mask = ((1 << (high - low)) - 1) << shift
                parts.append(Rule(rule.prime, [rule.table[base & ~mask | k << shift] for k in range(1 << (high - low))]))
            whole = Rule(rule.prime, [1])
            for part in parts:
                whole = beside(whole, part)
            # The product has the worth at base once for each part.
            many = 1
            for _ in parts[1:]:
                many = many * rule.table[base] % rule.prime
            if whole == scaled(rule, many):
                size = sum(part.legs + 1 if part.legs > 1 and rule_is_by_ones(part) else len(part.table) for part in parts)
                found.append((size, len(parts), [-(high - low) for low, high in spans]))
        size, _, legs = min(found)
        return (size, [-x for x in legs])

    def test_one_blank_between_tokens(self):
        chance = chance_of(711)
        for legs in (0, 1, 2, 3, 8):
            text = rules_text([some_rule(chance, 97, legs), ones(97, legs, [3] * (legs + 1))])
            self.assertEqual(text, text.strip())
            for wrong in ("  ", "[ ", "< ", " ]", " >", "]*", ">*", "*[", "|[", "|<"):
                self.assertNotIn(wrong, text)
        for legs in (0, 1, 2, 5, 60):
            form = some_form(chance, 97, legs)
            text = form_text(form)
            self.assertNotIn("  ", text)
            head, number, flips, table = [part.split() for part in text.split(":")]
            self.assertEqual(head, ["mod", "97", "form", str(legs)])
            self.assertEqual(number, [str(form.number)])
            self.assertEqual(flips, [str(k) for k in form.flips])
            self.assertEqual(table, [str(form.table[i][j]) for i in range(legs) for j in range(i + 1, legs)])

    def test_refused(self):
        rule = Rule(7, [1, 2])
        for thing in ODD_THINGS:
            self.refuses(BadRule, None, rule_parts, thing)
            self.refuses(BadRule, None, rule_text, thing)
            self.refuses(BadForm, None, form_text, thing)
        for thing in ODD_THINGS + [[rule] * 61, [rule, Rule(5, [1])], [rule, None], [None, rule], rule, {0: rule}]:
            self.refuses(BadRule, "rules", rules_text, thing)
        self.assertEqual(rules_text([rule] * 60).count("|"), 60)


def rule_is_by_ones(rule):
    told = {}
    return all(told.setdefault(bin(k).count("1"), x) == x for k, x in enumerate(rule.table))
