"""Bestsbook: a club's bests, whenever they are told."""
