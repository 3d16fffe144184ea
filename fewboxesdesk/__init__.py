"""Binder: boxes. Files stand in their order, in boxes that hold them."""
