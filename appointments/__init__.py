"""Appointments: who can come when, and who is served in which slot."""
