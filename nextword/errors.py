"""The refusals of the program, one class each."""


class WordError(ValueError):
    pass


class NoEnd(WordError):
    pass


class Unused(WordError):
    pass


class Clash(WordError):
    pass


class NoRow(WordError):
    pass
