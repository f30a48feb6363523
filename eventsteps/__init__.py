"""Eventsteps: stations, jobs, and one trace."""
