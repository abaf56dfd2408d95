"""A sheet of stamps: what is torn off it, and what could be."""
