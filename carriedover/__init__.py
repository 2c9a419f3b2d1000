"""Carried over: digits to a prime, and what is carried when numbers are added."""
