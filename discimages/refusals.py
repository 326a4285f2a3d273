"""The refusals that are found deep inside a reading, an error class each."""


class BadImage(Exception):
    pass


class NoFile(Exception):
    pass
