"""Deckwork: decks of cards that are programs."""
