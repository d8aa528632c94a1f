"""Polynomials with whole coefficients taken apart."""
