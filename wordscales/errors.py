"""The refusals, each a class of its own under WeighError."""


# Any refusal: who does not care which one takes this.
class WeighError(ValueError):
    pass


# A tuple that is no machine.
class NoMachine(WeighError):
    pass


# A word with a sign that the machine doesn't know.
class NoSign(WeighError):
    pass


# Two machines that know unlike numbers of signs.
class Unlike(WeighError):
    pass


# A machine that would have more rooms than a machine may have.
class TooMany(WeighError):
    pass


# A text that is no machine written down.
class BadNote(WeighError):
    pass
