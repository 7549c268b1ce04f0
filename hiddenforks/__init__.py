"""Hiddenforks: a log that shows unlike people unlike things."""
