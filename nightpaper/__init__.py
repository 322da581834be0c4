"""Nightpaper: a newspaper made by night."""
