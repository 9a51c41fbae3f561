"""Coeditry: a house of documents edited by many hands at once, whose copies are one."""
