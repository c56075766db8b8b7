"""Warmove: programs carried to another house while they run."""
