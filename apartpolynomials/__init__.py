"""Polynomials of whole numbers, taken apart."""
