"""Fardesk: a program used from afar. Import each name from the module that defines it."""
