"""A long race timed: who began when, who was where, who has run it."""
