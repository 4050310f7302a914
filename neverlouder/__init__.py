"""Boxes that are never louder than what they heard, by what they make of a few tones."""
