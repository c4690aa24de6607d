"""The refusals."""


class PieceError(ValueError):
    """Any refusal."""


class BadPiece(PieceError):
    """What was handed in is no closed piece."""


class BadFuel(PieceError):
    """What was handed in is no fuel."""
