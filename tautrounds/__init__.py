"""Closed ways on skins with rims, drawn with as few crossings as can be."""
