"""Presses and moulds: green tyres wait, and are cured in presses."""
