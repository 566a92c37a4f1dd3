"""Fewladders: things of which some lie above others, told as few ladders."""
