"""A desk: a house that is spoken to line by line."""

from nodetour.deeds import log_text, read_deed
from nodetour.errors import BadDeed, BadText, NothingDone
from nodetour.house import House
from nodetour.texts import cells_text, lot_text, plan_text


def text_of_undo(house):
    """Take the last deed back, and return the text of how many the log has then."""
    return str(house.undo())


def text_of_redo(house):
    """Do a deed again, and return the text of how many the log has then."""
    return str(house.redo())


def text_of_serve(house):
    """Set the further stalls, and return the text of how many they were."""
    return str(house.serve())


def text_of_thin(house):
    """Take the idle stalls, and return the text of how many they were."""
    return str(house.thin())


def text_of_room(house):
    """Return the text of the room."""
    return lot_text(house.room())


def text_of_plan(house):
    """Return the text of the room with its stalls and the dark spots."""
    return plan_text(house.room(), house.stalls(), house.dark())


def text_of_stalls(house):
    """Return the text of the stalls."""
    return cells_text(house.stalls())


def text_of_dark(house):
    """Return the text of the dark spots."""
    return cells_text(house.dark())


def text_of_spare(house):
    """Return the text of the idle stalls."""
    return cells_text(house.spare())


def text_of_log(house):
    """Return the text of the deeds done."""
    if house.deeds() == ():
        return "nothing"
    return log_text(house.deeds())


def text_of_served(house):
    """Return "yes" if each cell is served, else "no"."""
    return "yes" if house.served() else "no"


def text_of_missing(house):
    """Return the text of how many further stalls are needed."""
    return str(house.missing())


def text_of_answer(house):
    """Return the two lines of the stalls and of the spots of an answer for the room."""
    stalls, spots = house.answer()
    return "\n".join([cells_text(stalls), cells_text(spots)])


LINES = {
    "undo": text_of_undo, "redo": text_of_redo, "serve": text_of_serve, "thin": text_of_thin,
    "room": text_of_room, "plan": text_of_plan, "stalls": text_of_stalls, "dark": text_of_dark,
    "spare": text_of_spare, "log": text_of_log, "served": text_of_served, "missing": text_of_missing,
    "answer": text_of_answer,
}


class Desk:
    """A desk with a house."""

    def __init__(self, room):
        self._house = House(room)

    def house(self):
        """Return the house itself."""
        return self._house

    def say(self, line):
        """Return what the desk says to a line, any value."""
        if not isinstance(line, str) or line not in LINES:
            return self._said_to_deed(line)
        told = LINES[line]
        try:
            return told(self._house)
        except NothingDone:
            return "refused"

    def _said_to_deed(self, line):
        """Return how many deeds are done behind that of a line, "what" if it is the text of none."""
        try:
            return str(self._house.do(read_deed(line)))
        except (BadText, BadDeed):
            return "what"
