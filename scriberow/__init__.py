"""Scriberow: one row of sayings, settled by most of the scribes."""
