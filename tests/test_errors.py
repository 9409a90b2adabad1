from helpers import ATTRIBUTES, PLAIN_ERRORS, Case

import onebasis.errors as errors


class Errors(Case):
    def test_all_are_directly_below_basis_error(self):
        self.assertEqual(errors.BasisError.__bases__, (ValueError,))
        for name in list(ATTRIBUTES) + PLAIN_ERRORS:
            self.assertEqual(getattr(errors, name).__bases__, (errors.BasisError,), name)

    def test_attributes_are_what_was_given(self):
        for name, attribute in ATTRIBUTES.items():
            for thing in (None, True, 7, "prime", (1, [2]), {}, 1.5):
                self.assertIs(getattr(getattr(errors, name)(thing), attribute), thing)
            self.assertEqual(getattr(getattr(errors, name)(**{attribute: 3}), attribute), 3)

    def test_the_others_are_made_of_a_message(self):
        for name in PLAIN_ERRORS:
            self.assertEqual(str(getattr(errors, name)("some words")), "some words")
