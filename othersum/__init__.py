"""Othersum: shares that turn when parts are put together."""
