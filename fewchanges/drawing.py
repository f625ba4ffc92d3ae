"""The object that a list of calls is about."""


class Drawing:
    """Two strings with their figures, and the way that is kept (None if none is)."""

    def __init__(self):
        self.started = False
        self.figures = []
        self.way = None

    def redraw(self, figures):
        """Put other figures in the place of these; a way told of these alone, so it goes too."""
        self.figures = figures
        self.way = None
