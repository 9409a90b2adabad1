from helpers import Case, brute_sum

from onebasis.examples import examples
from onebasis.rules import ones
from onebasis.webs import Web, is_flat

TEXTS = [
    "mod 7 | <1 0 1> a b | <0 1 0> b c | <1 0 1> c d | <0 1 0> d e | <1 0 1> e f | <0 1 0> f a :",
    "mod 97 | <0 1 0 0> a b c | <0 1 0 0> d e f | <0 1 0 0> g h i | <0 1 0 0> a d g | <0 1 0 0> b e h"
    " | <0 1 0 0> c f i :",
]


class Examples(Case):
    def test_texts(self):
        self.same(examples(), TEXTS)
        self.assertIsNot(examples(), examples())

    def test_facts(self):
        webs = [self.read(text) for text in examples()]
        self.assertEqual([brute_sum(web) for web in webs], [[0], [6]])
        self.assertEqual([is_flat(web) for web in webs], [True, False])

    def read(self, text):
        """The web of a text of rules by ones without outer legs."""
        head, *rows = text.rstrip(" :").split(" | ")
        prime = int(head.split()[1])
        rules, met = [], {}
        for place, row in enumerate(rows):
            told, words = row[1:].split("> ")
            words = words.split()
            rules.append(ones(prime, len(words), [int(x) for x in told.split()]))
            for k, word in enumerate(words):
                met.setdefault(word, []).append((place, k))
        return Web(prime, rules, [tuple(pair) for pair in met.values()], [])
