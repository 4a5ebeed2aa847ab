"""Equations with slopes, and with steps: which polynomials solve them."""
