"""Texts of webs."""

from onebasis.ruletexts import parts_text
from onebasis.surfaces import other_ends
from onebasis.tokens import word_of
from onebasis.webs import want_web


def web_text(web):
    """The text of the web, its legs' words in the sequence in which they first stand."""
    want_web(web)
    ends = other_ends(web.ties)
    words = {}
    many = 0
    for place, rule in enumerate(web.rules):
        for k in range(rule.legs):
            leg = (place, k)
            if ends.get(leg) in words:
                words[leg] = words[ends[leg]]
            else:
                words[leg] = word_of(many)
                many += 1
    rows = []
    for place, rule in enumerate(web.rules):
        rows.append(" ".join(["|", parts_text(rule)] + [words[(place, k)] for k in range(rule.legs)]))
    return " ".join([f"mod {web.prime}"] + rows + [":"] + [words[leg] for leg in web.outer])
