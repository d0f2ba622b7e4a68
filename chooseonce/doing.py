"""Doing what code says."""

from chooseonce.expressions import told_by

# Only the loop over the end of a first piece may well have no value.
FIRST_ENDS = ("e0.0", "e1.0")


class Doing:
    """Does code for rows of some lengths, and counts.

    settings has the values of the variables; turns is how often a body of a for was entered, idle
    how often a for over an end, but of a first piece, was done without a value. tell is called for
    each "new" and "look", with the statement and the settings as they are then.
    """

    def __init__(self, lengths, tell):
        self.settings = {f"n{row}": length for row, length in enumerate(lengths)}
        self.turns = 0
        self.idle = 0
        self._tell = tell

    def do(self, body):
        """Does all statements of a body."""
        for statement in body:
            if statement[0] == "for":
                self._do_loop(statement)
            elif statement[0] == "if":
                if told_by(statement[1], self.settings) >= 1:
                    self.do(statement[2])
            else:
                tell = self._tell
                tell(statement, self.settings)

    def _do_loop(self, statement):
        _, variable, lows, highs, body = statement
        low = max([told_by(one, self.settings) for one in lows])
        high = min([told_by(one, self.settings) for one in highs])
        if high < low and variable[0] == "e" and variable not in FIRST_ENDS:
            self.idle += 1
        outside = self.settings.get(variable, 0)
        for value in range(low, high + 1):
            self.turns += 1
            self.settings[variable] = value
            self.do(body)
        self.settings[variable] = outside
