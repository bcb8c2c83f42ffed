"""Rooms that are full: processes joined by channels with little room."""
