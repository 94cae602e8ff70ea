"""Links: chains that never change, so that what stood at an earlier time is still there to be taken up again."""


class Link:
    """What is held, and the link before it, None for the first one."""

    def __init__(self, held, before):
        self.held = held
        self.before = before
        self.number = 0 if before is None else before.number + 1
