"""The refusals of foldrows."""


class FoldError(ValueError):
    pass


class NoThing(FoldError):
    pass


class NoHeight(FoldError):
    pass
