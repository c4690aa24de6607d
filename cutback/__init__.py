"""Cutback: what is still to be done, taken up, kept, and gone on with."""
