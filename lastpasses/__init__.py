"""Rows of people who pass a chair, and what the last passes leave."""
