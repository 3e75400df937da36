"""Cranktables: engines of figure wheels that print tables by turns of a crank."""
