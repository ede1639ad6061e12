"""The errors of the package: one class for each kind of wrong argument, all under HelmError.

`given` is the whole value that was passed; `index` is the index of the first element that is wrong,
None for what is no tuple of the told form.
"""


class HelmError(ValueError):
    """The base of all errors of this package."""


class UnlikeSizes(HelmError):
    """Two lots of unlike sizes."""


class InvalidNumber(HelmError):
    """No whole number as it is told."""

    def __init__(self, given):
        super().__init__("no whole number as told")
        self.given = given


class InvalidFraction(HelmError):
    """No fraction."""

    def __init__(self, given):
        super().__init__("no fraction")
        self.given = given


class InvalidLot(HelmError):
    """No lot by rows."""

    def __init__(self, given):
        super().__init__("no lot")
        self.given = given


class InvalidChart(HelmError):
    """No chart."""

    def __init__(self, given):
        super().__init__("no chart")
        self.given = given


class InvalidTable(HelmError):
    """No table of the chart."""

    def __init__(self, given):
        super().__init__("no table of the chart")
        self.given = given


class InvalidStanding(HelmError):
    """No standing of the chart or of the loop."""

    def __init__(self, given):
        super().__init__("no standing")
        self.given = given


class InvalidController(HelmError):
    """No controller."""

    def __init__(self, given):
        super().__init__("no controller")
        self.given = given


class InvalidState(HelmError):
    """No state of the controller."""

    def __init__(self, given):
        super().__init__("no state of the controller")
        self.given = given


class InvalidForm(HelmError):
    """No form."""

    def __init__(self, given):
        super().__init__("no form")
        self.given = given


class InvalidMemory(HelmError):
    """No memory of the controller."""

    def __init__(self, given):
        super().__init__("no memory of the controller")
        self.given = given


class InvalidPlant(HelmError):
    """No plant."""

    def __init__(self, given):
        super().__init__("no plant")
        self.given = given


class InvalidLoop(HelmError):
    """No loop."""

    def __init__(self, given):
        super().__init__("no loop")
        self.given = given


class InvalidComes(HelmError):
    """Nothing that fits the standing."""

    def __init__(self, given):
        super().__init__("nothing that fits the standing")
        self.given = given


class InvalidName(HelmError):
    """No name that is known."""

    def __init__(self, given):
        super().__init__("no known name")
        self.given = given


class TooMany(HelmError):
    """Too many to make a chart of them."""

    def __init__(self, given):
        super().__init__("too many")
        self.given = given


class InvalidRow(HelmError):
    """No row of as many fractions as told."""

    def __init__(self, index):
        super().__init__("no row as told")
        self.index = index


class InvalidPairs(HelmError):
    """No pairs of fractions as told."""

    def __init__(self, index):
        super().__init__("no pairs as told")
        self.index = index


class InvalidDirections(HelmError):
    """No directions."""

    def __init__(self, index):
        super().__init__("no directions")
        self.index = index


class InvalidSteps(HelmError):
    """No steps of a chart."""

    def __init__(self, index):
        super().__init__("no steps of the chart")
        self.index = index


class InvalidReadings(HelmError):
    """No readings for the inputs."""

    def __init__(self, index):
        super().__init__("no readings")
        self.index = index


class InvalidRows(HelmError):
    """No rows as told."""

    def __init__(self, index):
        super().__init__("no rows as told")
        self.index = index


class InvalidNumbers(HelmError):
    """No numbers for the form."""

    def __init__(self, index):
        super().__init__("no numbers for the form")
        self.index = index


class InvalidProgram(HelmError):
    """No program of the machine."""

    def __init__(self, index):
        super().__init__("no program")
        self.index = index


class InvalidCells(HelmError):
    """No words for the cells."""

    def __init__(self, index):
        super().__init__("no cells as told")
        self.index = index


class InvalidText(HelmError):
    """No text of the kind told."""

    def __init__(self, index):
        super().__init__("no text as told")
        self.index = index


class InvalidWrites(HelmError):
    """No writes of the memory."""

    def __init__(self, index):
        super().__init__("no writes")
        self.index = index
