"""The errors that stand for refusals: one class for each that tells a kind and a place."""


class RulesFault(Exception):

    def __init__(self, kind, place):
        self.kind = kind
        self.place = place


class LineFault(Exception):

    def __init__(self, kind, place):
        self.kind = kind
        self.place = place
