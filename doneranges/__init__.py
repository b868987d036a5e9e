"""Doneranges: what several houses have done, told as stretches of numbers."""
