"""Deltaloom: changing collections whose views are kept up by certified derivatives."""
