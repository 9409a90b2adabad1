from helpers import ODD_THINGS, Case, chance_of, some_rule, some_web
from test_limits import pairs_web
from test_readers import limit_web

from onebasis.errors import BadWeb
from onebasis.examples import examples
from onebasis.readers import web_of_text
from onebasis.rules import Rule
from onebasis.ruletexts import rule_text
from onebasis.webs import Web
from onebasis.webtexts import web_text


def words():
    """a, b, .. z, aa, ab, .."""
    letters = "abcdefghijklmnopqrstuvwxyz"
    return list(letters) + [one + other for one in letters for other in letters]


def plain_text(web):
    """The text of a web, by the words of point 73."""
    every = words()
    named, tokens = {}, f"mod {web.prime}"
    for place, rule in enumerate(web.rules):
        tokens += " | " + rule_text(rule).split(" ", 2)[2]
        for k in range(rule.legs):
            wire = [tie for tie in web.ties if (place, k) in tie] or [((place, k),)]
            if wire[0] not in named:
                named[wire[0]] = every[len(named)]
            tokens += " " + named[wire[0]]
    return tokens + " :" + "".join(" " + named[(leg,)] for leg in web.outer)


class WebTexts(Case):
    def test_texts_and_back(self):
        chance = chance_of(730)
        for number in range(150):
            web = some_web(chance, (3, 5, 97)[number % 3], chance.randrange(7), chance.randrange(10), 8)
            told = web_text(web)
            self.assertEqual(told, plain_text(web))
            self.assertEqual(web_of_text(told), web)

    def test_examples(self):
        for text in examples():
            self.assertEqual(web_text(web_of_text(text)), text)
        self.assertEqual(web_text(Web(5, [], [], [])), "mod 5 :")
        self.assertEqual(web_of_text("mod 5 :"), Web(5, [], [], []))
        web = Web(5, [Rule(5, [1, 2]), Rule(5, [3])], [], [(0, 0)])
        self.assertEqual(web_text(web), "mod 5 | [1 2] a | [3] : a")

    def test_limits(self):
        chance = chance_of(731)
        for _ in range(3):
            web = limit_web(chance)
            told = web_text(web)
            self.assertEqual(web_of_text(told), web)
            self.assertEqual(told, plain_text(web))
        web = pairs_web(97, some_rule(chance, 97, 8))
        self.assertEqual(web_of_text(web_text(web)), web)

    def test_refused(self):
        for thing in ODD_THINGS:
            self.refuses(BadWeb, None, web_text, thing)
