"""Colours that can't be: directions in a space, marked or not."""
