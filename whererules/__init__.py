"""Whererules: rules that hold for some rows of a table."""
