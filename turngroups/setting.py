"""The one object that a list of calls speaks to."""


class Setting:
    def __init__(self):
        self.places = 0
        self.height = 0
        self.programs = [(), ()]
