"""Eventloom: events that make events, handled in one told order."""
