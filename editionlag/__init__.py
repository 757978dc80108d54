"""Indexes that are put into a table and taken out of it while servers lag behind."""
