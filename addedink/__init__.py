"""Addedink: amounts altered by added strokes."""
