"""Coins made of coins: see madecoins.tosses.answers."""
