"""What is refused of what is handed in."""

from cutback.errors import BadFuel, BadPiece
from cutback.pieces import is_closed, is_whole

MOST_FUEL = 10 ** 6


def check_piece(piece):
    """Refuses what is no closed piece."""
    if not is_closed(piece):
        raise BadPiece("a closed piece is due")


def check_fuel(fuel):
    """Refuses what is no fuel."""
    if not is_whole(fuel) or not 0 <= fuel <= MOST_FUEL:
        raise BadFuel("fuel is a whole number from 0 to 10 ** 6")


def check_both(piece, fuel):
    """Refuses what is no closed piece, then what is no fuel."""
    check_piece(piece)
    check_fuel(fuel)
