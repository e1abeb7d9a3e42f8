"""Helpers of two sides that lend and give things by handles."""
