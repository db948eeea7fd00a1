"""Goods that stand for others: people come to a store and take the first of their list that is there."""
