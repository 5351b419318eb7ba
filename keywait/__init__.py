"""Keywait: key maps whose decisions wait for the next key or for silence."""
