"""Retime: repair the times of a plan by changing the cheapest set of tasks."""
