"""Duetickers: all programs at once, each step in the order in which it is due."""
