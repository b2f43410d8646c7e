"""A week's plays: which bill leaves the house most."""
