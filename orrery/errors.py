"""The errors of Orrery."""


class OrreryError(ValueError):
    """The base of all errors of Orrery."""


class BadArgument(OrreryError):
    """An argument is out of its bounds; `name` tells which one."""

    def __init__(self, name):
        super().__init__(f"an argument is out of its bounds: {name}")
        self.name = name


class NoSuchCraft(OrreryError):
    """There is no craft of the name `name`."""

    def __init__(self, name):
        super().__init__(f"there is no such craft: {name}")
        self.name = name


class NoSuchSite(OrreryError):
    """There is no site of the name `name`."""

    def __init__(self, name):
        super().__init__(f"there is no such site: {name}")
        self.name = name


class TooMany(OrreryError):
    """There is no room for another thing of the kind."""


class BeforeStart(OrreryError):
    """A burn or a sighting lies before the start of its craft."""


class BurnsOverlap(OrreryError):
    """Two burns act at the same tick."""


class NoSuchBurn(OrreryError):
    """The craft has no burn with this begin."""


class NoSuchSighting(OrreryError):
    """The craft has no sighting at this tick."""


class BadText(OrreryError):
    """A text cannot be read; `line` counts from 1 to the line at fault."""

    def __init__(self, line):
        super().__init__(f"the text cannot be read from this line on: {line}")
        self.line = line


class BadQuestion(OrreryError):
    """A text is no question; `offset` counts the characters before the fault."""

    def __init__(self, offset):
        super().__init__(f"the question is at fault behind so many characters: {offset}")
        self.offset = offset


class NothingKnown(OrreryError):
    """Nothing is known of the quantity or fact with the word `word`."""

    def __init__(self, word):
        super().__init__(f"nothing is known of this: {word}")
        self.word = word


class CourseVoid(OrreryError):
    """No motion that obeys the data reaches the tick `at`."""

    def __init__(self, at):
        super().__init__(f"no motion that obeys the data reaches this tick: {at}")
        self.at = at


class CourseLost(OrreryError):
    """The object is lost in the step to the tick `at`."""

    def __init__(self, at):
        super().__init__(f"the object is lost in the step to this tick: {at}")
        self.at = at
