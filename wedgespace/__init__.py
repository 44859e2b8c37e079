"""Wedgespace: spaces glued from tetrahedra."""
