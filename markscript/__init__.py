"""Markscript: works marked by schemes that are written in a language."""
