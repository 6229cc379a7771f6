"""Mobiles: rods, hooks and the weights that make all rods level."""
