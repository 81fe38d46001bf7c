"""PALLETHALL, layer h: tariffs and stays."""
