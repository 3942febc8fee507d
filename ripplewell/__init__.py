"""Ripplewell: a reactive runtime."""
