"""Leavechain: programs with leaves that end."""
