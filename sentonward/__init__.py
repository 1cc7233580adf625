"""Sentonward: redirect books, decided for all addresses."""
