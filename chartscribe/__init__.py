"""Chartscribe: pictures of numbers on a sheet of signs."""
