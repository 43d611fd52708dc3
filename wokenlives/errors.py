"""All errors of the program, each with the fields that its constructor takes."""


class LivesError(ValueError):
    """The base of all errors of the program."""


class BadText(LivesError):
    """A text is refused at the token at this place."""

    def __init__(self, row, column):
        super().__init__(f"the text is refused at row {row}, column {column}")
        self.row = row
        self.column = column


class BadSign(BadText):
    """The refused token is bad."""


class BadForm(BadText):
    """The refused token does not fit the grammar."""


class TooDeep(BadText):
    """Only the depth of blocks or the weight of expressions speaks against the token."""


class BadName(LivesError):
    """The name at this place breaks a rule of names."""

    def __init__(self, name, row, column):
        super().__init__(f"the name {name} at row {row}, column {column} is refused")
        self.name = name
        self.row = row
        self.column = column


class DoubleName(BadName):
    """Something else has this name already."""


class UnknownName(BadName):
    """Nothing of this name is visible."""


class WrongKind(BadName):
    """The name is visible as something that does not fit here."""


class WrongCount(BadName):
    """There are too few or too many arguments, expressions or numbers."""


class RingOfClasses(BadName):
    """The way from outer class to outer class comes back."""


class TooLarge(BadName):
    """The class has too many outer classes, or too large bodies."""


class BadDeed(LivesError):
    """The deed does not fit the kind of the thing."""

    def __init__(self, kind, deed):
        super().__init__(f"the deed {deed} does not fit a {kind}")
        self.kind = kind
        self.deed = deed


class BadBook(LivesError):
    """The row of a book with this number is not the one that its deed gives."""

    def __init__(self, number):
        super().__init__(f"the book is wrong at number {number}")
        self.number = number


class BadRows(LivesError):
    """The heights of compiled rows fail at this row."""

    def __init__(self, row):
        super().__init__(f"the rows are wrong at row {row}")
        self.row = row


class NotDue(LivesError):
    """The life is not due."""

    def __init__(self, life):
        super().__init__(f"the life {life} is not due")
        self.life = life


class Quiet(LivesError):
    """No life is due at any moment."""


class NoCourse(LivesError):
    """The list of names is no course, or no whole one, at this place."""

    def __init__(self, place):
        super().__init__(f"no course at place {place}")
        self.place = place


class TooLong(LivesError):
    """There is more than this bound allows."""

    def __init__(self, most):
        super().__init__(f"more than {most}")
        self.most = most


class Crossed(LivesError):
    """These two lines of a forest cross."""

    def __init__(self, first, second):
        super().__init__(f"the lines {first} and {second} cross")
        self.first = first
        self.second = second


class NoPlace(LivesError):
    """There is no such place."""

    def __init__(self, place):
        super().__init__(f"no place {place}")
        self.place = place


class BadWorld(LivesError):
    """The text of a world is refused at this row."""

    def __init__(self, row):
        super().__init__(f"the text of the world is refused at row {row}")
        self.row = row


class Unsound(LivesError):
    """The world breaks this rule."""

    def __init__(self, rule):
        super().__init__(f"the world breaks rule {rule}")
        self.rule = rule


class BadRecord(LivesError):
    """The text of a record is refused at this row."""

    def __init__(self, row):
        super().__init__(f"the text of the record is refused at row {row}")
        self.row = row


class BadRow(LivesError):
    """A desk does not know a row of this form."""

    def __init__(self, text):
        super().__init__(f"no such row: {text}")
        self.text = text


class NoThing(LivesError):
    """The world has no thing of this name."""

    def __init__(self, name):
        super().__init__(f"no thing {name}")
        self.name = name
