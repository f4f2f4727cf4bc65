"""Pactloom: protocols written once for all parties, and the machines that carry them out."""
