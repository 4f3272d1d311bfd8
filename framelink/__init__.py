"""Frames over a given link: one end of it, with its queues, its pace and what it hears."""
