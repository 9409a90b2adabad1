"""Onebasis: sums over all fillings of webs of rules."""
