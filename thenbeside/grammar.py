"""The grammars of the texts of plans and problems: which token can come behind others."""

from thenbeside.errors import TextError

# The places in the text of a problem, and for each what can come there, with the place behind it.
STEPS = {
    "size": (("a number", "colon"),),
    "colon": (('":"', "first rule"),),
    "first rule": (("a task", "relation"), ("the end", "nothing")),
    "rule": (("a task", "relation"),),
    "relation": (("beside", "behind relation"), ("before", "behind relation"), ("after", "behind relation")),
    "behind relation": (("a task", "behind rule"), ('"|"', "relation")),
    "behind rule": (('","', "rule"), ("the end", "nothing")),
    "nothing": (),
}
NAMES = {"task": "a task", "number": "a number", "end": "the end"}


class PlanPlace:
    """A place in the text of a plan."""

    def __init__(self):
        # The word of each row that is not closed, the outermost one first; empty as long as the row has no word.
        self.rows = [""]
        self.behind_item = False

    def coming(self):
        """Return the list of what can come here, in order."""
        if not self.behind_item:
            return ["a task", '"("']
        word = self.rows[-1]
        joining = ["then", "beside"] if word == "" else [word]
        return joining + [('")"' if len(self.rows) > 1 else "the end")]

    def step(self, word):
        """Go behind what is told by the word, which can come here."""
        self.behind_item = word not in ('"("', "then", "beside")
        if word == '"("':
            self.rows.append("")
        elif word == '")"':
            self.rows.pop()
        elif not self.behind_item:
            self.rows[-1] = word


class ProblemPlace:
    """A place in the text of a problem."""

    def __init__(self):
        self.place = "size"

    def coming(self):
        """Return the list of what can come here, in order."""
        return [word for word, _ in STEPS[self.place]]

    def step(self, word):
        """Go behind what is told by the word, which can come here."""
        self.place = dict(STEPS[self.place])[word]


def coming_behind(tokens, kind):
    """Return the list of what can come behind the tokens; raise TextError at the first one that cannot come."""
    place = PlanPlace() if kind == "plan" else ProblemPlace()
    for token in tokens:
        coming = place.coming()
        if word_of(token) not in coming:
            raise TextError(token[2], "expected " + listed(coming))
        place.step(word_of(token))
    return place.coming()


def word_of(token):
    """Return the word that tells what can come, for the token."""
    kind, characters, _ = token
    return f'"{characters}"' if kind == "sign" else NAMES.get(kind, characters)


def listed(words):
    """Return the words as one, with commas and "or" between them."""
    if len(words) == 1:
        return words[0]
    return ", ".join(words[:-1]) + " or " + words[-1]
