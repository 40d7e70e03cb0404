"""Gustfloor: where a steered ball can roll on a floor of gusty tiles."""
