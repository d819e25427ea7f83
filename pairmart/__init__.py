"""Pairmart: a matching market of many rounds."""
