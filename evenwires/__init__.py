"""Evenwires: trees of wires of alike lengths."""
