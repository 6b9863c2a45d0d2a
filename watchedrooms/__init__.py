"""Rooms, and who watches them."""
