"""Restworld: what rests tell of whole numbers."""
