"""Corestore: stores handed over to another shape, and the least one that fits."""
