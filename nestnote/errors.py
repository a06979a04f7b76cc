"""The program's refusals."""


class NoteError(ValueError):
    pass


class NoThing(NoteError):
    pass


class NoPart(NoteError):
    pass
