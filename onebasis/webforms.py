"""Forms of all rules of a web, and what webs must be for sums in few steps."""

from onebasis.errors import NoForm, NotFlat
from onebasis.foundforms import form_of
from onebasis.webs import is_flat


def want_flat(web):
    """Refuses what is no Web, and a web that is not flat."""
    if not is_flat(web):
        raise NotFlat("the web is not flat")


def forms_of(web):
    """The normal forms of all rules; refuses a web with a rule without one."""
    forms = [form_of(rule) for rule in web.rules]
    for place, form in enumerate(forms):
        if form is None:
            raise NoForm(place)
    return forms
