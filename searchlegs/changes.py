"""What was there before each change, so that changes can be taken back, and done again."""

MOST_CHANGES = 20


class Changes:
    """What stood before each of the last changes, and what stood before each one that was taken back."""

    def __init__(self):
        self.behind = []
        self.ahead = []

    def made(self, was):
        """Another change was made to what was there."""
        self.behind = (self.behind + [was])[-MOST_CHANGES:]
        self.ahead = []

    def take_back(self, standing):
        """What stood before the last change; what is standing can be come back to."""
        self.ahead.append(standing)
        return self.behind.pop()

    def do_again(self, standing):
        """What stood before the last change was taken back; what is standing can be come back to."""
        self.behind.append(standing)
        return self.ahead.pop()
