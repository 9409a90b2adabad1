"""Texts of two webs: of a ring of rules, and of one that is not flat."""


def examples():
    """The list of the texts of both webs."""
    return [
        "mod 7 | <1 0 1> a b | <0 1 0> b c | <1 0 1> c d | <0 1 0> d e | <1 0 1> e f | <0 1 0> f a :",
        "mod 97 | <0 1 0 0> a b c | <0 1 0 0> d e f | <0 1 0 0> g h i"
        " | <0 1 0 0> a d g | <0 1 0 0> b e h | <0 1 0 0> c f i :",
    ]
