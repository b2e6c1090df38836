"""The refusals."""


class JarError(ValueError):
    pass


class NoName(JarError):
    pass


class NoProgram(JarError):
    pass


class Jam(JarError):
    pass
