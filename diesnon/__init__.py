"""Diesnon: due days for all calendars."""
