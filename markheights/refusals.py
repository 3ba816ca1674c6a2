"""The refusals, each with all that is answered then."""


class Refusal(Exception):
    def __init__(self, told):
        self.told = told


class NoBook(Refusal):
    def __init__(self):
        Refusal.__init__(self, [-3])


class NoMark(Refusal):
    def __init__(self):
        Refusal.__init__(self, [-4])


class AtFault(Refusal):
    # more is empty but for a line that disagrees: it alone tells a ring and its gap
    def __init__(self, kind, place, more):
        Refusal.__init__(self, [-6, kind, place] + more)
