"""The faults that the program finds in what it is given."""


class ScriptError(ValueError):
    """What all faults have in common."""


class TextFault(ScriptError):
    """A text that is no formula."""

    def __init__(self, place, reason):
        ScriptError.__init__(self, f"{reason} at sign {place}")
        self.place = place
        self.reason = reason


class DrawingFault(ScriptError):
    """Rows that are no drawing."""

    def __init__(self, row, column):
        ScriptError.__init__(self, f"no drawing goes on at row {row}, column {column}")
        self.row = row
        self.column = column


class ProofFault(ScriptError):
    """Lines that are no proof."""

    def __init__(self, line, reason):
        ScriptError.__init__(self, f"{reason} in line {line}")
        self.line = line
        self.reason = reason


class BookFault(ScriptError):
    """Entries that are no book."""

    def __init__(self, entry, line, reason):
        ScriptError.__init__(self, f"{reason} in entry {entry}, line {line}")
        self.entry = entry
        self.line = line
        self.reason = reason
