"""Promises that pay: written, read, tidied, tried, signed and worked out day by day."""
