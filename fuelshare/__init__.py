"""Fuelshare: a language whose calls are handed shares of fuel."""
