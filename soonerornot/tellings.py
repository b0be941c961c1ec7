"""What a line of a console tells: an act or a question, as a tuple that begins with its word."""

from soonerornot.forms import take_head, take_line, take_sheet, take_term, take_ties
from soonerornot.readers import Reader

# The words that begin a line which is neither a SHEET nor a LINE.
SHORT = (
    "moment", "stretch", "drop", "undo", "redo", "mark", "since", "can", "placed", "follows", "between", "ways",
    "moments", "stretches", "lines",
)
# Those of them behind which just one name stands.
NAMING = ("moment", "stretch", "drop", "mark", "since")
# A line needs a name, and that of one that is asked about plays no part.
ANY_NAME = "x"


def read_telling(text):
    """Return what a text tells; raise BadText(place) if it has none of the forms."""
    reader = Reader(text)
    telling = _take_telling(reader)
    reader.finish()
    return telling


def _take_telling(reader):
    if reader.ahead() == "sheet":
        return ("sheet", take_sheet(reader))
    if reader.ahead() == "say":
        return ("say", take_line(reader))
    word = reader.take(*SHORT)
    told = _take_told(reader, word)
    reader.take(";")
    return (word, *told)


def _take_told(reader, word):
    """Take what stands between a word and the semicolon, and return the tuple of what it tells."""
    if word in NAMING:
        return (reader.take_name(),)
    if word == "ways":
        return (reader.take_name(), reader.take_name())
    if word == "between":
        return (take_term(reader), take_term(reader))
    if word == "follows":
        ties = take_ties(reader)
        return ((ANY_NAME, ties, take_head(reader)),)
    return ()
