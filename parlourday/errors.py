"""The errors of the program, each directly under ParlourError."""


class ParlourError(ValueError):
    """Any error of the program."""


class BadWeb(ParlourError):
    """An object in the place of a web is none."""


class BadWalk(ParlourError):
    """An object in the place of a walk is none, from its entry `place` on."""

    def __init__(self, place):
        super().__init__(f"no walk of this web, from place {place} on")
        self.place = place


class BadMove(ParlourError):
    """There is no such node, or no such move of it."""


class BadFraction(ParlourError):
    """An object in the place of a fraction is none."""


class BadCount(ParlourError):
    """An object in the place of a count is none, or it is out of its bounds."""


class BadGame(ParlourError):
    """An object in the place of a game is none."""


class BadWay(ParlourError):
    """An object in the place of a way of an owner is none."""


class BadOwner(ParlourError):
    """An object in the place of an owner is none."""


class BadSetup(ParlourError):
    """An object in the place of a setup is none."""


class BadRow(ParlourError):
    """An object in the place of a row of comers is none, from its entry `place` on."""

    def __init__(self, place):
        super().__init__(f"no row of comers, from place {place} on")
        self.place = place


class BadSeats(ParlourError):
    """An object in the place of a seat rule is none."""


class NotDeaf(ParlourError):
    """A rule that has to be deaf is not."""


class BadWhat(ParlourError):
    """An object in the place of one of some words is none of them."""


class BadTubs(ParlourError):
    """An object in the place of a tub rule is none."""


class BadAsking(ParlourError):
    """An object in the place of an asking is none, from its entry `place` on."""

    def __init__(self, place):
        super().__init__(f"no asking, from place {place} on")
        self.place = place


class BadOpenings(ParlourError):
    """An object in the place of openings is none."""


class BadRule(ParlourError):
    """An object in the place of a rule of the house is none."""


class BadBill(ParlourError):
    """An object in the place of a bill of the setup is none."""


class BadView(ParlourError):
    """An object in the place of a view that is met is none."""


class BadBoards(ParlourError):
    """An object in the place of boards is none."""


class BadComers(ParlourError):
    """Objects in the place of comers of the setup are none."""


class BadPlace(ParlourError):
    """An object in the place of the number of a beat is none."""


class BadRules(ParlourError):
    """An object in the place of a list of rules is none."""


class NothingToUndo(ParlourError):
    """No deed is in force that could be taken back."""


class Full(ParlourError):
    """As many deeds are in force as can be."""


class TooMany(ParlourError):
    """More can come than the program looks at."""


class BadText(ParlourError):
    """An object in the place of a text of a form is none, from its word `place` on."""

    def __init__(self, place):
        super().__init__(f"not the text that is wanted, from word {place} on")
        self.place = place


class BadCommand(ParlourError):
    """An object in the place of a row for the desk is none."""
