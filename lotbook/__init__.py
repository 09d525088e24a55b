"""Lotbook: a company's shares, lot by lot."""
