"""Ateverymoment: facts in spans of time, and questions that are kept up."""
