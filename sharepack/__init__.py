"""Sharepack: texts packed by shares that are learnt block by block."""
