"""Safehelms: controllers that keep their plants safe, whatever comes."""
