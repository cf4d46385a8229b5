"""Hushlink: a secure channel between ends."""
