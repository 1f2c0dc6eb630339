"""Steps: changes of a list that are written down."""

from handsorted.errors import BadStep
from handsorted.lines import read_line, write_line

MOST_CHARACTERS = 1000
MOST_DEPTH = 8
MARKS = ("(", ";", ")")


class Step:
    """The base class of all steps. Two steps are equal if their classes and texts are equal."""

    def __init__(self, text):
        self._text = text

    def __eq__(self, other):
        return type(self) is type(other) and self._text == other._text

    @property
    def text(self):
        """The text of the step."""
        return self._text

    @classmethod
    def read(cls, text):
        """Return the step of a text. Raises BadStep for any value that is not the text of a step."""
        if not isinstance(text, str) or len(text) > MOST_CHARACTERS:
            raise BadStep(text)
        return StepReader(text).only_step()

    def run(self, hand):
        """Do the step with a list; each kind of step does something else."""
        raise NotImplementedError("a step of no kind")


class AddStep(Step):
    """Adding an item."""

    def __init__(self, row_id, *fields):
        super().__init__(write_line("add", [row_id, *fields]))
        self._row_id = row_id
        self._fields = fields

    def run(self, hand):
        """Add the item. Raises BadItem, TakenId or TooMany."""
        hand.add_item(self._row_id, *self._fields)


class DropStep(Step):
    """Dropping items."""

    def __init__(self, *ids):
        super().__init__(write_line("drop", ids))
        self._ids = ids

    def run(self, hand):
        """Drop the items. Raises BadMove or UnknownId."""
        hand.drop(*self._ids)


class FieldsStep(Step):
    """Changing the fields of an item."""

    def __init__(self, row_id, *fields):
        super().__init__(write_line("fields", [row_id, *fields]))
        self._row_id = row_id
        self._fields = fields

    def run(self, hand):
        """Change the fields. Raises BadItem or UnknownId."""
        hand.set_fields(self._row_id, *self._fields)


class RuleStep(Step):
    """Changing the rule."""

    def __init__(self, *columns):
        super().__init__(write_line("rule", columns))
        self._columns = columns

    def run(self, hand):
        """Change the rule. Raises BadRule."""
        hand.set_rule(self._columns)


class MoveStep(Step):
    """Moving ids directly behind another one, or to the top."""

    def __init__(self, *ids, behind=0):
        super().__init__(write_line("move", ids, behind))
        self._ids = ids
        self._behind = behind

    def run(self, hand):
        """Move the ids. Raises BadMove."""
        hand.move(*self._ids, behind=self._behind)


class ResetStep(Step):
    """Taking the pins of ids away."""

    def __init__(self, *ids):
        super().__init__(write_line("reset", ids))
        self._ids = ids

    def run(self, hand):
        """Take the pins away. Raises BadMove or UnknownId."""
        hand.reset(*self._ids)


class GroupStep(Step):
    """Steps that are done as a whole."""

    def __init__(self, *steps):
        inside = " ; ".join([step.text for step in steps])
        super().__init__(f"( {inside} )" if len(steps) > 0 else "( )")
        self._steps = steps

    def run(self, hand):
        """Do the steps as one change. Raises the error of the first step that raises one, and none is done then."""
        with hand.group():
            for step in self._steps:
                step.run(hand)


class StepReader:
    """Reads a text from part to part. Raises BadStep with the whole text where it is not the text of a step."""

    def __init__(self, text):
        self._text = text
        # The next part stands at the end, where it is taken from.
        self._parts = parts_of(text)[::-1]

    def only_step(self):
        """Return the step that the whole text is."""
        step = self._step(0)
        if len(self._parts) > 0:
            raise BadStep(self._text)
        return step

    def _takes(self, mark):
        """Return whether the next part is this mark, which is then taken."""
        found = self._parts[-1:] == [mark]
        if found:
            self._parts.pop()
        return found

    def _step(self, depth):
        """Return the next step, which stands in as many groups as depth says."""
        if self._takes("("):
            return self._group(depth + 1)
        step = plain_step(self._parts.pop()) if len(self._parts) > 0 else None
        if step is None:
            raise BadStep(self._text)
        return step

    def _group(self, depth):
        """Return the group whose opening parenthesis has been taken."""
        if depth > MOST_DEPTH:
            raise BadStep(self._text)
        if self._takes(")"):
            return GroupStep()
        steps = [self._step(depth)]
        while self._takes(";"):
            steps.append(self._step(depth))
        if not self._takes(")"):
            raise BadStep(self._text)
        return GroupStep(*steps)


def parts_of(text):
    """Return the parts of a text: its marks, and what stands between them, without the spaces around the marks."""
    parts = []
    for word in text.split(" "):
        if len(parts) == 0 or word in MARKS or parts[-1] in MARKS:
            parts.append(word)
        else:
            parts[-1] = f"{parts[-1]} {word}"
    return parts


def plain_step(line):
    """Return the step of a text that is no group, or None if it is the text of none."""
    word, numbers, anchor = read_line(line)
    if word == "move" and anchor is not None:
        return MoveStep(*numbers, behind=anchor)
    if anchor is not None:
        return None
    if word == "drop":
        return DropStep(*numbers)
    if word == "rule":
        return RuleStep(*numbers)
    if word == "reset":
        return ResetStep(*numbers)
    if word not in ("add", "fields") or len(numbers) == 0:
        return None
    row_id, *fields = numbers
    return AddStep(row_id, *fields) if word == "add" else FieldsStep(row_id, *fields)
