"""parlourday: seats and opened tubs, for all guests."""
