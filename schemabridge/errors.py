"""The errors that the program raises."""


class BridgeError(ValueError):
    """The base class of all errors that the program raises."""


class InvalidSchema(BridgeError):
    """A schema is not valid, or a value is not the message of a valid schema."""


class InvalidValue(BridgeError):
    """A value is not a message of its schema."""


class InvalidCertificate(BridgeError):
    """Pairs of names are not a certificate for two schemas."""


class TooLarge(BridgeError):
    """The least common successor of two schemas is too large for a valid schema."""


class UnknownVersion(BridgeError):
    """A number is not that of a version."""


class UnknownHost(BridgeError):
    """A number is not that of a host."""


class UnknownLetter(BridgeError):
    """A number is not that of a letter that was made and not lost."""


class UnknownSlot(BridgeError):
    """A slot holds nothing."""


class NoRoute(BridgeError):
    """A version is not reached from another one."""


class PowerLost(BridgeError):
    """The power of a store failed or is off."""


class BadOctets(BridgeError):
    """Octets are not those of a message: the index and the reason of the first fault."""

    def __init__(self, at, reason):
        super().__init__(f"{reason} at {at}")
        self.at = at
        self.reason = reason


class Unreadable(BridgeError):
    """A value can't be read: the path to the first place at which it can't, and the reason."""

    def __init__(self, path, reason):
        super().__init__(f"{reason} at {path}")
        self.path = path
        self.reason = reason


class Clash(BridgeError):
    """Two schemas have no common successor: the number of lists around the parts that differ."""

    def __init__(self, depth):
        super().__init__(f"different kinds within {depth} lists")
        self.depth = depth


class Refused(BridgeError):
    """A schema does not follow a parent: the parent's version number and a counterexample."""

    def __init__(self, parent, counterexample):
        super().__init__(f"the schema does not follow version {parent}")
        self.parent = parent
        self.counterexample = counterexample
