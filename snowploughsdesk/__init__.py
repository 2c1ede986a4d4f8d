"""A night's snow: who clears which street, in which order."""
