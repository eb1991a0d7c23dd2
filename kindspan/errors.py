"""What the program refuses, an error class for each refusal."""


class KindError(ValueError):
    pass


class NoJoin(KindError):
    pass


class NoKind(KindError):
    pass


class NoName(KindError):
    def __init__(self, name):
        self.name = name


class Stuck(KindError):
    pass
