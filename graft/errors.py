"""The errors that the functions of the package raise."""


class Refused(ValueError):
    """Something was refused; each kind of refusal is a class below."""


class Malformed(Refused):
    """A text is no text of a grammar."""

    def __init__(self, at):
        Refused.__init__(self, f"malformed at {at}")
        self.at = at


class Invalid(Refused):
    """An argument is not what its name says."""

    def __init__(self, name):
        Refused.__init__(self, f"invalid {name}")
        self.name = name


class Unknown(Refused):
    """A name is called that no rule has."""

    def __init__(self, name):
        Refused.__init__(self, f"unknown rule {name}")
        self.name = name


class Looping(Refused):
    """A match of a rule might not end."""

    def __init__(self, name):
        Refused.__init__(self, f"rule {name} might not end")
        self.name = name


class BadStep(Refused):
    """A step of a log is no step or does not apply."""

    def __init__(self, number):
        Refused.__init__(self, f"bad step {number}")
        self.number = number
