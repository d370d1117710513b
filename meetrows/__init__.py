"""Meetrows: the least sets of names that meet every row."""
