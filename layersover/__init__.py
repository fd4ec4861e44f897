"""Layers put together: a picture made of layers and groups, one over another."""
