"""Hewstream: documents turned into output while they come."""
