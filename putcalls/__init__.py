"""Calls put in: programs of functions, told call by call."""
