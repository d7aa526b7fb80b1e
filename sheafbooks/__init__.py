"""Sheafbooks: books bound of parts by settings."""
