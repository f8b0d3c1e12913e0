"""Candleroom: air in a sealed house, and the least vents."""
