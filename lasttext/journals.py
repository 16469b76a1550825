"""Studios made anew from their journals (section 40 of the document)."""

from lasttext.errors import BadJournal, Refused
from lasttext.journallines import read_beginning, read_call
from lasttext.studio import Studio


def restart(text):
    """The studio that a journal tells; raises BadJournal if none does."""
    # What stands behind the last newline is no line.
    lines = text.split("\n")[:-1]
    if lines == []:
        raise BadJournal(1)
    beginning = read_beginning(lines[0])
    if beginning is None:
        raise BadJournal(1)
    try:
        studio = Studio(beginning[0], beginning[1])
    except Refused:
        raise BadJournal(1) from None
    for number, line in enumerate(lines[1:], start=2):
        call = read_call(line)
        if call is None:
            raise BadJournal(number)
        name, branch, arguments = call
        try:
            studio.call(name, branch, arguments)
        except Refused:
            raise BadJournal(number) from None
    return studio
