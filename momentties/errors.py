"""Every refusal of the program."""


class MomentError(ValueError):
    pass


class BadWeb(MomentError):
    def __init__(self, at, why):
        MomentError.__init__(self, at, why)
        self.at = at
        self.why = why


class NoTimes(MomentError):
    def __init__(self, ring):
        MomentError.__init__(self, list(ring))
        self.ring = list(ring)


class NoHand(MomentError):
    def __init__(self, paper):
        MomentError.__init__(self, list(paper))
        self.paper = list(paper)


class BadFall(MomentError):
    pass


class BadText(MomentError):
    def __init__(self, row):
        MomentError.__init__(self, row)
        self.row = row
