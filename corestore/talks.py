"""A Handing that is talked to in lines of words."""

from corestore.booktexts import atoms_fault, atoms_of
from corestore.errors import BadFact, Clash, NoFact, NothingDone
from corestore.questions import is_question
from corestore.stores import is_fact

WHAT = "what"
MOST_HEARD = 8


class Talk:
    """Lines said about a Handing, and what was answered."""

    def __init__(self, handing):
        self._handing = handing
        self._heard = ()

    @property
    def handing(self):
        """The Handing."""
        return self._handing

    @property
    def heard(self):
        """The last lines, each with its answer."""
        return self._heard

    def say(self, line):
        """Does what the line says; returns the answer."""
        heard = line if isinstance(line, str) else None
        answer = WHAT if heard is None else answer_to(self._handing, heard)
        self._heard = (self._heard + ((heard, answer),))[-MOST_HEARD:]
        return answer


def answer_to(handing, line):
    """The answer to the line, also if the Handing raises an error."""
    try:
        return reply(handing, line)
    except BadFact:
        return "no BadFact"
    except Clash:
        return "no Clash"
    except NoFact:
        return "no NoFact"
    except NothingDone:
        return "no NothingDone"


def reply(handing, line):
    """The answer to the line, if the Handing raises no error."""
    word, *words = line.split(" ")
    if word == "put" or word == "take":
        return changed(handing, word, tuple(words))
    if word == "ask":
        return asked(handing, line)
    return told(handing, line)


def changed(handing, word, fact):
    """The answer to a line that puts the fact or takes it."""
    if not is_fact(fact):
        return WHAT
    is_new = handing.put(fact) if word == "put" else handing.take(fact)
    return "new" if is_new else "same"


def asked(handing, line):
    """The answer to a line that asks a question."""
    before, _, after = line.partition(" : ")
    if atoms_fault(after.split(" "), 1) is not None:
        return WHAT
    out, atoms = tuple(before.split(" ")[1:]), atoms_of(after)
    if not is_question(out, atoms):
        return WHAT
    rows = handing.sure((out, atoms))
    return "yes" if rows == ((),) else listed(rows)


def told(handing, line):
    """The answer to a line of one word."""
    if line == "undo":
        return f"left {handing.undo()}"
    if line == "least":
        return listed(handing.least())
    if line == "source":
        return listed(handing.source)
    if line == "size":
        return str(len(handing.source))
    return WHAT


def listed(rows):
    """The rows of words in one line."""
    return "; ".join([" ".join(row) for row in rows]) if len(rows) > 0 else "-"
