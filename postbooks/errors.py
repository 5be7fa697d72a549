"""The refusals of the program, one class for each."""


class PostError(ValueError):
    pass


class Poor(PostError):
    pass


class NoCut(PostError):
    pass


class NoLetter(PostError):
    pass
