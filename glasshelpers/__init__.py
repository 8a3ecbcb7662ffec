"""Helpers under glass."""
