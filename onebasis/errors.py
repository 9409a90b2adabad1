"""All errors of the package, each directly below BasisError."""


class BasisError(ValueError):
    """What each error of this package is."""


class BadAffine(BasisError):
    """An affine form was wanted; part tells what is wrong."""

    def __init__(self, part):
        super().__init__(f"not an affine form: {part}")
        self.part = part


class BadBasis(BasisError):
    """A basis was wanted; part tells what is wrong."""

    def __init__(self, part):
        super().__init__(f"not a basis: {part}")
        self.part = part


class BadBench(BasisError):
    """A workbench was wanted."""


class BadBits(BasisError):
    """A tuple of bits was wanted."""


class BadChords(BasisError):
    """A list of chords was wanted."""


class BadCourse(BasisError):
    """A course of the web was wanted."""


class BadDeed(BasisError):
    """A deed was wanted."""


class BadDeedLine(BasisError):
    """A row that tells a deed was wanted; number tells what is wrong."""

    def __init__(self, number):
        super().__init__(f"not a row that tells a deed: {number}")
        self.number = number


class BadEdit(BasisError):
    """An edit was wanted."""


class BadEntries(BasisError):
    """A lot of entries of the web was wanted."""


class BadForm(BasisError):
    """A form was wanted; part tells what is wrong."""

    def __init__(self, part):
        super().__init__(f"not a form: {part}")
        self.part = part


class BadFormula(BasisError):
    """A formula was wanted; part tells what is wrong."""

    def __init__(self, part):
        super().__init__(f"not a formula: {part}")
        self.part = part


class BadGate(BasisError):
    """A gate was wanted; part tells what is wrong."""

    def __init__(self, part):
        super().__init__(f"not a gate: {part}")
        self.part = part


class BadLine(BasisError):
    """A line of the web was wanted."""


class BadLive(BasisError):
    """A live web was wanted; part tells what is wrong."""

    def __init__(self, part):
        super().__init__(f"not a live web: {part}")
        self.part = part


class BadLog(BasisError):
    """A log was wanted; at tells what is wrong."""

    def __init__(self, at):
        super().__init__(f"not a log: {at}")
        self.at = at


class BadLot(BasisError):
    """A lot of rules was wanted; part tells what is wrong."""

    def __init__(self, part):
        super().__init__(f"not a lot of rules: {part}")
        self.part = part


class BadMove(BasisError):
    """A move of the gate was wanted."""


class BadNumber(BasisError):
    """A number or a list of numbers was wanted; part tells what is wrong."""

    def __init__(self, part):
        super().__init__(f"not a number or a list of numbers: {part}")
        self.part = part


class BadProduct(BasisError):
    """A product form was wanted; part tells what is wrong."""

    def __init__(self, part):
        super().__init__(f"not a product form: {part}")
        self.part = part


class BadQuestion(BasisError):
    """A question was wanted."""


class BadRoad(BasisError):
    """A road of the web was wanted."""


class BadRule(BasisError):
    """A rule was wanted; part tells what is wrong."""

    def __init__(self, part):
        super().__init__(f"not a rule: {part}")
        self.part = part


class BadSides(BasisError):
    """The left places of a two-sided web were wanted."""


class BadText(BasisError):
    """A text was wanted; at tells what is wrong."""

    def __init__(self, at):
        super().__init__(f"not a text: {at}")
        self.at = at


class BadTies(BasisError):
    """A list of ties of the web was wanted."""


class BadWeb(BasisError):
    """A web was wanted; part tells what is wrong."""

    def __init__(self, part):
        super().__init__(f"not a web: {part}")
        self.part = part


class NoClass(BasisError):
    """The rules of the piece with this least place are not of one class."""

    def __init__(self, place):
        super().__init__(f"no class at place {place}")
        self.place = place


class NoEdge(BasisError):
    """The places have no edge."""


class NoForm(BasisError):
    """The rule at this place has no form."""

    def __init__(self, place):
        super().__init__(f"no form at place {place}")
        self.place = place


class NoSquare(BasisError):
    """The face of the leg is no square that can be renewed."""


class NotAffine(BasisError):
    """The rule at this place is not affine."""

    def __init__(self, place):
        super().__init__(f"not affine at place {place}")
        self.place = place


class NotFlat(BasisError):
    """A flat web or gate was wanted."""


class NotLet(BasisError):
    """What was asked for cannot be done to this web."""

    def __init__(self, why):
        super().__init__(f"not let {why}")
        self.why = why


class NotProduct(BasisError):
    """The rule at this place is no product rule."""

    def __init__(self, place):
        super().__init__(f"no product rule at place {place}")
        self.place = place


class NotShort(BasisError):
    """The rule at this place is not short."""

    def __init__(self, place):
        super().__init__(f"not short at place {place}")
        self.place = place


class TooMany(BasisError):
    """There would be more than this many."""

    def __init__(self, most):
        super().__init__(f"more than {most}")
        self.most = most
