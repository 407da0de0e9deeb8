"""Matroidpick: things picked by weight, and the way to them."""
