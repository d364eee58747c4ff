"""Crewpay: seamen's wages by voyage, reckoned with whole numbers and exact fractions."""
