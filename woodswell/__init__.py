"""Swelling: how the parts of a wooden work move when it is damp or dry."""
