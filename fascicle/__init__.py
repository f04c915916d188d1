"""Fascicle: a small language of modules, and bundles of them."""
