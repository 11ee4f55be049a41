"""Toads and frogs change sides."""
