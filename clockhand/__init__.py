"""Clockhand: pages let go by a hand that goes round."""
