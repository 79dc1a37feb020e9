"""Rows of steps read forward, backward, turned and taken back."""
