"""Lights where roads cross: a controller that gives streams green by rings and groups."""
