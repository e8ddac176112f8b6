"""The errors that the program raises."""


class LoomError(ValueError):
    """The base class of all errors that the program raises."""


class FormError(LoomError):
    """A text is not a written form."""


class SizeError(LoomError):
    """A change is too long for a record."""


class NameUnknown(LoomError):
    """There is nothing with the name."""

    def __init__(self, name):
        super().__init__(f"unknown name: {name}")
        self.name = name


class NameTaken(LoomError):
    """There is something with the name already."""

    def __init__(self, name):
        super().__init__(f"name is taken: {name}")
        self.name = name
