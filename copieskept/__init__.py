"""Copies kept in step: one calendar, and three devices that show it."""
