"""Firstwrong: every forbidden deed of a C-like program, at its first place."""
