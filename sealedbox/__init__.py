"""Sealed box: numbers under seals, and the boxes that keep them. The calls are answered by sealedbox.boxes."""
