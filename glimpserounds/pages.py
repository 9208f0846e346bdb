"""The pages of a book, one for each of its changes, and trials, which turn back to the page they began at."""


class Page:
    """The records and claims behind a change of a book; a page never changes, so a book can turn back to it."""

    def __init__(self, shelf, promises, before):
        self.shelf = shelf
        self.promises = promises
        self.before = before
        self.number = 0 if before is None else before.number + 1


class Mark:
    """The page at which a trial was entered, and the mark of the entry around this one."""

    def __init__(self, page, around):
        self.page = page
        self.around = around


class Trial:
    """The rows of a with statement, behind which the book is as it was; it can be entered within itself."""

    def __init__(self, held):
        self.held = held
        self.mark = None

    def __enter__(self):
        self.mark = Mark(self.held.page, self.mark)
        return self.held

    def __exit__(self, kind, value, trace):
        self.held.page = self.mark.page
        self.mark = self.mark.around
