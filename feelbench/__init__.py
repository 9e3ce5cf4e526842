"""Sensors on bodies whose tracks are known, and the rows of samples that come of them."""
