"""Equations with slopes, and with steps: which polynomials solve them, and what follows from a beginning."""
