"""What seekers and books share: the steps that they can take back, and trials that leave them as they were."""


class Step:
    """What is held behind a step, and the step before it, None if there is none.

    Steps never change, so whoever keeps one keeps with it all that can be taken back.
    """

    def __init__(self, held, before):
        self.held = held
        self.before = before
        self.many = 0 if before is None else before.many + 1


class Trial:
    """For a with statement, whose rows leave the seeker or the book as it was when they began.

    The same trial may be entered again within itself, so it keeps a step for each time.
    """

    def __init__(self, holder):
        self.holder = holder
        self.kept = None

    def __enter__(self):
        self.kept = Step(self.holder.step, self.kept)
        return self.holder

    def __exit__(self, kind, value, trace):
        holder = self.holder
        holder.step = self.kept.held
        self.kept = self.kept.before
