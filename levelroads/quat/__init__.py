"""Quaternions."""
