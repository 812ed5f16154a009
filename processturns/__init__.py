"""Schedulers of processes that share one processor and two locks."""
