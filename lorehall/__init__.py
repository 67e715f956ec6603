"""Lorehall: folk who teach one another, and what is not used wanes."""
