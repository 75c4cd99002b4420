"""Eightlots: twenty-four lamps, and all that eight of them tell."""
