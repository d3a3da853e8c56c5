"""Signals: stations that move on a line and send one another light."""
