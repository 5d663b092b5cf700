"""Heaps of several kinds that join, lower and take out, their work paid ahead."""
