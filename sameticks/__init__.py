"""Asynchronous tasks on one queue of jobs, and when two programs of them can be told apart."""
