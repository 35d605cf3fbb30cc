"""The refusals of calls, one error class for each, with the code that is answered."""


class Refusal(Exception):
    def __init__(self, code):
        self.code = code


class NoStore(Refusal):
    def __init__(self):
        Refusal.__init__(self, -11)


class NotThere(Refusal):
    def __init__(self):
        Refusal.__init__(self, -2)


class OutsideLimits(Refusal):
    def __init__(self):
        Refusal.__init__(self, -22)


class MemberThere(Refusal):
    def __init__(self):
        Refusal.__init__(self, -17)


class NoRoom(Refusal):
    def __init__(self):
        Refusal.__init__(self, -28)


class NoRecommendation(Refusal):
    def __init__(self):
        Refusal.__init__(self, -33)


class NoSuchWeight(Refusal):
    def __init__(self):
        Refusal.__init__(self, -33)
