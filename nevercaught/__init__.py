"""Nevercaught: a runner on an endless board on which squares are burnt, and why it is never caught."""
