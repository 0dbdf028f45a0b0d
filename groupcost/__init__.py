"""Groupcost: what hands cost together, and a paper beside every answer."""
