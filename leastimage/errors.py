"""The errors of the whole package.

Each error keeps the values that it was given as attributes, and the name of
its class as the attribute code. The wording of the messages promises nothing.
"""


class ImageError(ValueError):
    """A value that cannot be taken, or a call that cannot be done now."""


class Missing(LookupError):
    """A value that should name something that is there, and does not."""


class InvalidName(ImageError):
    def __init__(self, value):
        super().__init__(f"{value!r} is not a name")
        self.value = value
        self.code = "InvalidName"


class InvalidPart(ImageError):
    def __init__(self, value):
        super().__init__(f"{value!r} is not a part")
        self.value = value
        self.code = "InvalidPart"


class InvalidAlignment(ImageError):
    def __init__(self, value):
        super().__init__(f"{value!r} is not an alignment")
        self.value = value
        self.code = "InvalidAlignment"


class InvalidScope(ImageError):
    def __init__(self, value):
        super().__init__(f"{value!r} is not a scope of such a piece")
        self.value = value
        self.code = "InvalidScope"


class InvalidRow(ImageError):
    def __init__(self, at):
        super().__init__(f"item {at!r} is not a row of the part")
        self.at = at
        self.code = "InvalidRow"


class NotClosing(ImageError):
    def __init__(self):
        super().__init__("the last row of a code piece is not a closing one")
        self.code = "NotClosing"


class InvalidPiece(ImageError):
    def __init__(self, at):
        super().__init__(f"value {at!r} is not a piece")
        self.at = at
        self.code = "InvalidPiece"


class InvalidOutside(ImageError):
    def __init__(self, at):
        super().__init__(f"item {at!r} cannot be an outside name")
        self.at = at
        self.code = "InvalidOutside"


class InvalidMember(ImageError):
    def __init__(self, at):
        super().__init__(f"value {at!r} is not an object")
        self.at = at
        self.code = "InvalidMember"


class InvalidUnit(ImageError):
    def __init__(self, at):
        super().__init__(f"value {at!r} is not a unit")
        self.at = at
        self.code = "InvalidUnit"


class DuplicateName(ImageError):
    def __init__(self, name):
        super().__init__(f"the name {name!r} stands twice")
        self.name = name
        self.code = "DuplicateName"


class Double(ImageError):
    def __init__(self, name, first, second):
        super().__init__(f"{first!r} and {second!r} both have a strong piece {name!r}")
        self.name = name
        self.first = first
        self.second = second
        self.code = "Double"


class TooMany(ImageError):
    def __init__(self, most):
        super().__init__(f"there are more than {most!r}")
        self.most = most
        self.code = "TooMany"


class InvalidText(ImageError):
    def __init__(self, line, why):
        super().__init__(f"line {line!r} cannot stand: {why!r}")
        self.line = line
        self.why = why
        self.code = "InvalidText"


class InvalidNumber(ImageError):
    def __init__(self, value):
        super().__init__(f"{value!r} is not a number that may stand here")
        self.value = value
        self.code = "InvalidNumber"


class InvalidReach(ImageError):
    def __init__(self, value):
        super().__init__(f"{value!r} is not a reach")
        self.value = value
        self.code = "InvalidReach"


class InvalidPage(ImageError):
    def __init__(self, value):
        super().__init__(f"{value!r} is not a page")
        self.value = value
        self.code = "InvalidPage"


class InvalidRoots(ImageError):
    def __init__(self):
        super().__init__("these are not roots")
        self.code = "InvalidRoots"


class InvalidNeed(ImageError):
    def __init__(self, at):
        super().__init__(f"item {at!r} is not a need of the book")
        self.at = at
        self.code = "InvalidNeed"


class NotReady(ImageError):
    def __init__(self, need):
        super().__init__(f"{need!r} is not ready")
        self.need = need
        self.code = "NotReady"


class NotLarger(ImageError):
    def __init__(self):
        super().__init__("the book is not larger")
        self.code = "NotLarger"


class NotClosed(ImageError):
    def __init__(self, need):
        super().__init__(f"the needs are not closed: {need!r} is missing")
        self.need = need
        self.code = "NotClosed"


class UnknownRoot(ImageError):
    def __init__(self, name):
        super().__init__(f"the root {name!r} has no code")
        self.name = name
        self.code = "UnknownRoot"


class Unanswered(ImageError):
    def __init__(self, name, spot):
        super().__init__(f"{name!r} has no target at {spot!r}")
        self.name = name
        self.spot = spot
        self.code = "Unanswered"


class NotCode(ImageError):
    def __init__(self, name, spot):
        super().__init__(f"{name!r} is data at {spot!r}")
        self.name = name
        self.spot = spot
        self.code = "NotCode"


class InvalidBase(ImageError):
    def __init__(self, at):
        super().__init__(f"item {at!r} is not a base for its image")
        self.at = at
        self.code = "InvalidBase"


class InvalidImage(ImageError):
    def __init__(self, at):
        super().__init__(f"value {at!r} cannot be an image here")
        self.at = at
        self.code = "InvalidImage"


class Overlap(ImageError):
    def __init__(self, at):
        super().__init__(f"image {at!r} overlaps an earlier one")
        self.at = at
        self.code = "Overlap"


class Ended(ImageError):
    def __init__(self):
        super().__init__("the run has ended")
        self.code = "Ended"


class Unlinked(ImageError):
    def __init__(self, name, at):
        super().__init__(f"{name!r} in row {at!r} is not linked so")
        self.name = name
        self.at = at
        self.code = "Unlinked"


class TooSmall(ImageError):
    def __init__(self, key):
        super().__init__(f"the piece {key!r} has fewer than three cells")
        self.key = key
        self.code = "TooSmall"


class Within(ImageError):
    def __init__(self, spot):
        super().__init__(f"the run stands within the first cells, at {spot!r}")
        self.spot = spot
        self.code = "Within"


class NotReplaced(ImageError):
    def __init__(self, key):
        super().__init__(f"the piece {key!r} is not replaced")
        self.key = key
        self.code = "NotReplaced"


class Full(ImageError):
    def __init__(self):
        super().__init__("there is no room left")
        self.code = "Full"


class NoRun(ImageError):
    def __init__(self):
        super().__init__("there is no run")
        self.code = "NoRun"


class InvalidDeed(ImageError):
    def __init__(self, at):
        super().__init__(f"value {at!r} is not a deed")
        self.at = at
        self.code = "InvalidDeed"


class UnknownName(Missing):
    def __init__(self, name):
        super().__init__(f"there is nothing called {name!r}")
        self.name = name
        self.code = "UnknownName"


class UnknownPiece(Missing):
    def __init__(self, key):
        super().__init__(f"there is no such piece: {key!r}")
        self.key = key
        self.code = "UnknownPiece"


class UnknownPlace(Missing):
    def __init__(self, spot):
        super().__init__(f"there is no such place: {spot!r}")
        self.spot = spot
        self.code = "UnknownPlace"


class UnknownStub(Missing):
    def __init__(self, name):
        super().__init__(f"there is no stub of {name!r}")
        self.name = name
        self.code = "UnknownStub"


class UnknownNeed(Missing):
    def __init__(self, need):
        super().__init__(f"there is no such need: {need!r}")
        self.need = need
        self.code = "UnknownNeed"


class UnknownImage(Missing):
    def __init__(self, at):
        super().__init__(f"there is no image {at!r}")
        self.at = at
        self.code = "UnknownImage"


class NothingLeft(IndexError):
    def __init__(self):
        super().__init__("nothing is left to undo or to redo")
        self.code = "NothingLeft"
