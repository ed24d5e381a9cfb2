"""Hindprice: what hindsight costs, whatever the market does."""
