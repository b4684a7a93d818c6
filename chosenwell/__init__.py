"""Chosen well: a few things chosen for which a function comes to as much as can be."""
