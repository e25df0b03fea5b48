"""Dayspread: a calendar server that is exact for the endless future."""
